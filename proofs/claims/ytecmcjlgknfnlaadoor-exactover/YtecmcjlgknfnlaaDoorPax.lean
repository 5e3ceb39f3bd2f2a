/- Of what ExactOverRow stands on: ExAlive ExOverS ExLimit ExAddO ExSum ExRing0 ExRingW ExRingLaw ExIn. -/
import Derived.Test.YtecmcjlgknfnlaaDoorPav
import Derived.Test.YtecmcjlgknfnlaaDoorPaw
import Derived.Test.YtecmcjlgknfnlaaDoorPak
import Derived.Test.YtecmcjlgknfnlaaDoorPat
namespace Go.Proofs.YtecmcjlgknfnlaaDoor
open Go.RowKit
set_option maxHeartbeats 400000 in
theorem Half4  (w : World)  :
  Calls Tryd.prog 68 #[] w fun e w' => e = .returned (.agg #[.int .i64 5,.int .i64 10]) ∧ Below w.heap.size w w' := by
 go_enter Tryd.func68,Tryd.ntmps68
 go_wp2
 exact bodyPost_ret (v := .agg #[.int .i64 5,.int .i64 10]) (by simp [results,Tryd.results68,go_sem]) rfl ⟨rfl,(Fs.one w _ _).fr⟩
set_option maxHeartbeats 400000 in
theorem Double4  (w : World)  :
  Calls Tryd.prog 66 #[] w fun e w' => e = .returned (.agg #[.int .i64 11,.int .i64 52]) ∧ Below w.heap.size w w' := by
 go_enter Tryd.func66,Tryd.ntmps66
 go_wp2
 exact bodyPost_ret (v := .agg #[.int .i64 11,.int .i64 52]) (by simp [results,Tryd.results66,go_sem]) rfl ⟨rfl,(Fs.one w _ _).fr⟩
set_option maxHeartbeats 400000 in
theorem whole_any (s : Bool) (u : Nat) (x : Int) (hu : u < 18446744073709551616) (w : World)  :
  Calls Tryd.prog 69 #[.bool s,.int .u64 u,.int .i64 x] w fun e w' => (∃ A N C,e = .returned (.agg #[.bool s,.slice A N C,.int .i64 x]) ∧ Mine w' w.heap.size A N C u) ∧ Below w.heap.size w w' := by
 go_enter Tryd.func69,Tryd.ntmps69
 go_wp2_with fail
 refine (of_any u _ hu).mono ?_
 rintro e w1 ⟨⟨A1,N1,C1,rfl,f1⟩,hb1⟩
 have hS := (Fs.one w _ _).kept hb1
 obtain ⟨⟨z1_0_0,z1_0_1,z1_0_2,-⟩,-⟩ := hS.cells
 have F1 := hide f1
 clear f1
 have fz0 := hS.frozen (b := w.heap.size) (cs := #[.bool false,.slice none 0 0,.int .i64 0]) (t := 26) (by simp) 0
 have fz1 := hS.frozen (b := w.heap.size) (cs := #[.bool false,.slice none 0 0,.int .i64 0]) (t := 26) (by simp) 1
 have fz2 := hS.frozen (b := w.heap.size) (cs := #[.bool false,.slice none 0 0,.int .i64 0]) (t := 26) (by simp) 2
 go_wp2
 exact bodyPost_ret (v := .agg #[.bool s,.slice A1 N1 C1,.int .i64 x]) (by simp [results,Tryd.results69,go_sem,z1_0_0,z1_0_1,z1_0_2]) rfl ⟨⟨_,_,_,rfl,((((unhide F1).set (by simp) _).set (by simp) _).set (by simp) _).mono (by simp)⟩,((hS.fr.setCell (by simp <;> omega) _).setCell (by simp <;> omega) _).setCell (by simp <;> omega) _⟩
set_option maxHeartbeats 400000 in
theorem dsame_true (a : Option Addr) (n cap m : Nat) (a' : Option Addr) (n' cap' : Nat) (x : Int) (w : World) (h : Num w a n m) (h' : Num w a' n' m) :
  Calls Tryd.prog 32 #[.agg #[.bool true,.slice a n cap,.int .i64 x],.agg #[.bool true,.slice a' n' cap',.int .i64 x]] w fun e w' => e = .returned (.bool true) ∧ Below w.heap.size w w' := by
 have H := hide h
 have H' := hide h'
 clear h h'
 go_enter Tryd.func32,Tryd.ntmps32
 have HC := hide (same_any a a' n n' cap cap' m m _ (((unhide H).alloc (.cells #[.bool true,.slice a n cap,.int .i64 x] 26)).alloc (.cells #[.bool true,.slice a' n' cap',.int .i64 x] 26)) (((unhide H').alloc _).alloc _))
 rw [decide_eq_true (rfl : m = m)] at HC
 go_wp2_with fail
 refine (unhide HC).mono ?_
 rintro e w1 ⟨rfl,hb1⟩
 have hS := (Fs.two w _ _ _ _).kept hb1
 obtain ⟨⟨z1_0_0,z1_0_1,z1_0_2,-⟩,⟨z1_1_0,z1_1_1,z1_1_2,-⟩,-⟩ := hS.cells
 go_wp2
 go_ret
 exact ⟨rfl,hS.fr⟩
set_option maxHeartbeats 400000 in
theorem dsame_false (a : Option Addr) (n cap m : Nat) (a' : Option Addr) (n' cap' : Nat) (x : Int) (w : World) (h : Num w a n m) (h' : Num w a' n' m) :
  Calls Tryd.prog 32 #[.agg #[.bool false,.slice a n cap,.int .i64 x],.agg #[.bool false,.slice a' n' cap',.int .i64 x]] w fun e w' => e = .returned (.bool true) ∧ Below w.heap.size w w' := by
 have H := hide h
 have H' := hide h'
 clear h h'
 go_enter Tryd.func32,Tryd.ntmps32
 have HC := hide (same_any a a' n n' cap cap' m m _ (((unhide H).alloc (.cells #[.bool false,.slice a n cap,.int .i64 x] 26)).alloc (.cells #[.bool false,.slice a' n' cap',.int .i64 x] 26)) (((unhide H').alloc _).alloc _))
 rw [decide_eq_true (rfl : m = m)] at HC
 go_wp2_with fail
 refine (unhide HC).mono ?_
 rintro e w1 ⟨rfl,hb1⟩
 have hS := (Fs.two w _ _ _ _).kept hb1
 obtain ⟨⟨z1_0_0,z1_0_1,z1_0_2,-⟩,⟨z1_1_0,z1_1_1,z1_1_2,-⟩,-⟩ := hS.cells
 go_wp2
 go_ret
 exact ⟨rfl,hS.fr⟩
theorem dsame_any (s : Bool) (a : Option Addr) (n cap m : Nat) (a' : Option Addr) (n' cap' : Nat) (x : Int) (w : World) (h : Num w a n m) (h' : Num w a' n' m) :
  Calls Tryd.prog 32 #[.agg #[.bool s,.slice a n cap,.int .i64 x],.agg #[.bool s,.slice a' n' cap',.int .i64 x]] w fun e w' => e = .returned (.bool true) ∧ Below w.heap.size w w' := by
 cases s
 ·exact dsame_false a n cap m a' n' cap' x w h h'
 ·exact dsame_true a n cap m a' n' cap' x w h h'
theorem aone_wo : Wo 11 52 1023 1023 2251799813685248 6755399441055744 51 (-52) := ⟨⟨1,by decide⟩,Or.inr ⟨by decide,by decide,by decide⟩,by decide,by decide⟩
theorem av_one (w : World) (hT : Tb w) :
  Calls Tryd.prog 16 #[.agg #[.int .i64 11,.int .i64 52],.int .u64 4609434218613702656] w fun e w' => (∃ A N C,e = .returned (.tuple #[.agg #[.bool false,.slice A N C,.int .i64 (-1)],.int .i64 0]) ∧ Mine w' w.heap.size A N C 3) ∧ Below w.heap.size w w' :=
 Value_wo 11 52 1023 4609434218613702656 1023 2251799813685248 false 6755399441055744 51 (-52) w ⟨by decide,by decide,by decide,by decide⟩ (hide (by decide)) ⟨by decide,by decide,by decide⟩ aone_wo hT
theorem av_half (A : Option Addr) (N C : Nat) (w : World) (h : Num w A N 2047) :
  Calls Tryd.prog 67 #[.agg #[.int .i64 5,.int .i64 10],.agg #[.bool false,.slice A N C,.int .i64 5]] w fun e w' => e = .returned (.tuple #[.int .u64 31743,.bool true,.int .i64 0]) ∧ Below w.heap.size w w' :=
 Bits_wo 5 10 15 31743 30 1023 false 2047 0 5 A N C w ⟨by decide,by decide,by decide,by decide⟩ (hide (by decide)) ⟨by decide,by decide,by decide⟩ ⟨⟨1023,by decide⟩,Or.inr ⟨by decide,by decide,by decide⟩,by decide,by decide⟩ h
theorem small_not {v : Nat} (h : v < 2 ^ 64) : ¬ Over v := not_over h (by decide)
theorem num_pos {w : World} {a : Option Addr} {n m : Nat} (h : Num w a n m) (hm : 0 < m) : 0 < n := by have := h.zero; omega
theorem av_add (A : Option Addr) (N C : Nat) (A' : Option Addr) (N' C' : Nat) (w : World) (h : Num w A N 3) (h' : Num w A' N' 3) (hT : Tb w) :
  Calls Tryd.prog 30 #[.agg #[.bool false,.slice A N C,.int .i64 2],.agg #[.bool true,.slice A' N' C',.int .i64 0]] w fun e w' => (∃ A N C,e = .returned (.tuple #[.agg #[.bool false,.slice A N C,.int .i64 0],.int .i64 0]) ∧ Mine w' w.heap.size A N C 9) ∧ Below w.heap.size w w' :=
 Add_num false A N C 3 2 true A' N' C' 3 0 0 2 0 9 0 false w ⟨h,Or.inr ⟨by decide,by decide,by decide⟩⟩ ⟨h',Or.inr ⟨by decide,by decide,by decide⟩⟩ (num_pos h (by decide)) (num_pos h' (by decide)) hT (by decide) (by decide) (by decide) (by decide) (by decide) (small_not (by decide)) (small_not (by decide)) (by decide) ⟨4,by decide⟩ (by decide) (by decide)
  (hide fun W A N C A' N' C' g g' => addS_ge_f A N C _ A' N' C' _ W g g' (by decide))
theorem av_mul (A : Option Addr) (N C : Nat) (A' : Option Addr) (N' C' : Nat) (w : World) (h : Num w A N 3) (h' : Num w A' N' 5) :
  Calls Tryd.prog 31 #[.agg #[.bool false,.slice A N C,.int .i64 (-1)],.agg #[.bool true,.slice A' N' C',.int .i64 4]] w fun e w' => (∃ A N C,e = .returned (.tuple #[.agg #[.bool true,.slice A N C,.int .i64 3],.int .i64 0]) ∧ Mine w' w.heap.size A N C 15) ∧ Below w.heap.size w w' :=
 Mul_ok_ft A N C 3 (-1) A' N' C' 5 4 w ⟨h,Or.inr ⟨by decide,by decide,by decide⟩⟩ ⟨h',Or.inr ⟨by decide,by decide,by decide⟩⟩ (num_pos h (by decide)) (num_pos h' (by decide)) (by decide) (small_not (by decide))
theorem av_cmp (A : Option Addr) (N C : Nat) (A' : Option Addr) (N' C' : Nat) (w : World) (h : Num w A N 1) (h' : Num w A' N' 5) :
  Calls Tryd.prog 52 #[.agg #[.bool true,.slice A N C,.int .i64 3],.agg #[.bool true,.slice A' N' C',.int .i64 1]] w fun e w' => e = .returned (.tuple #[.int .i64 1,.int .i64 0]) ∧ Below w.heap.size w w' := by
 have := Cmp_any true A N C 1 3 true A' N' C' 5 1 1 2 0 w ⟨h,Or.inr ⟨by decide,by decide,by decide⟩⟩ ⟨h',Or.inr ⟨by decide,by decide,by decide⟩⟩ (by decide) (by decide)
 rw [show cmp3 (sv true (1 * 2 ^ 2)) (sv true (5 * 2 ^ 0)) = 1 from by decide] at this
 exact this
set_option maxRecDepth 20000 in
set_option maxHeartbeats 8000000 in
theorem alive_any  (w : World) (hT : Tb w) :
  Calls Tryd.prog 28 #[] w fun e w' => e = .returned (.bool true) ∧ Below w.heap.size w w' := by
 have HT := hide hT
 clear hT
 go_enter Tryd.func28,Tryd.ntmps28
 go_wp2_with fail
 refine (Double4 _).mono ?_
 rintro e w1 ⟨rfl,hb1⟩
 have hS := (Fs.begin w).kept hb1
 have hZ1 := hS.size
 go_wp2_with fail
 refine (av_one _ ((unhide HT).kept hS.fr)).mono ?_
 rintro e w2 ⟨⟨A1,N1,C1,rfl,f1⟩,hb2⟩
 replace hS := hS.kept hb2
 have G1 := hide (f1.mono hZ1)
 clear f1 hZ1
 replace hS := hS.alloc #[.bool false,.slice A1 N1 C1,.int .i64 (-1)] 26
 replace G1 := hide ((unhide G1).alloc (.cells #[.bool false,.slice A1 N1 C1,.int .i64 (-1)] 26))
 go_wp2_with fail
 refine (Half4 _).mono ?_
 rintro e w3 ⟨rfl,hb3⟩
 replace hS := hS.kept hb3
 obtain ⟨⟨z3_0_0,z3_0_1,z3_0_2,-⟩,-⟩ := hS.cells
 replace G1 := hide ((unhide G1).kept hb3)
 have hZ2 := hS.size
 go_wp2_with fail
 refine (whole_any false 2047 5 (by decide) _).mono ?_
 rintro e w4 ⟨⟨A2,N2,C2,rfl,f2⟩,hb4⟩
 replace hS := hS.kept hb4
 clear z3_0_0 z3_0_1 z3_0_2
 obtain ⟨⟨z4_0_0,z4_0_1,z4_0_2,-⟩,-⟩ := hS.cells
 replace G1 := hide ((unhide G1).kept hb4)
 have G2 := hide (f2.mono hZ2)
 clear f2 hZ2
 go_wp2_with fail
 refine (av_half A2 N2 C2 _ (unhide G2).num).mono ?_
 rintro e w5 ⟨rfl,hb5⟩
 replace hS := hS.kept hb5
 clear z4_0_0 z4_0_1 z4_0_2
 obtain ⟨⟨z5_0_0,z5_0_1,z5_0_2,-⟩,-⟩ := hS.cells
 replace G1 := hide ((unhide G1).kept hb5)
 replace G2 := hide ((unhide G2).kept hb5)
 have hZ3 := hS.size
 go_wp2_with fail
 refine (whole_any false 3 2 (by decide) _).mono ?_
 rintro e w6 ⟨⟨A3,N3,C3,rfl,f3⟩,hb6⟩
 replace hS := hS.kept hb6
 clear z5_0_0 z5_0_1 z5_0_2
 obtain ⟨⟨z6_0_0,z6_0_1,z6_0_2,-⟩,-⟩ := hS.cells
 replace G1 := hide ((unhide G1).kept hb6)
 replace G2 := hide ((unhide G2).kept hb6)
 have G3 := hide (f3.mono hZ3)
 clear f3 hZ3
 have hZ4 := hS.size
 go_wp2_with fail
 refine (whole_any true 3 0 (by decide) _).mono ?_
 rintro e w7 ⟨⟨A4,N4,C4,rfl,f4⟩,hb7⟩
 replace hS := hS.kept hb7
 clear z6_0_0 z6_0_1 z6_0_2
 obtain ⟨⟨z7_0_0,z7_0_1,z7_0_2,-⟩,-⟩ := hS.cells
 replace G1 := hide ((unhide G1).kept hb7)
 replace G2 := hide ((unhide G2).kept hb7)
 replace G3 := hide ((unhide G3).kept hb7)
 have G4 := hide (f4.mono hZ4)
 clear f4 hZ4
 have hZ5 := hS.size
 go_wp2_with fail
 refine (av_add A3 N3 C3 A4 N4 C4 _ (unhide G3).num (unhide G4).num ((unhide HT).kept hS.fr)).mono ?_
 rintro e w8 ⟨⟨A5,N5,C5,rfl,f5⟩,hb8⟩
 replace hS := hS.kept hb8
 clear z7_0_0 z7_0_1 z7_0_2
 obtain ⟨⟨z8_0_0,z8_0_1,z8_0_2,-⟩,-⟩ := hS.cells
 replace G1 := hide ((unhide G1).kept hb8)
 replace G2 := hide ((unhide G2).kept hb8)
 replace G3 := hide ((unhide G3).kept hb8)
 replace G4 := hide ((unhide G4).kept hb8)
 have G5 := hide (f5.mono hZ5)
 clear f5 hZ5
 have hltw8_0 : w2.heap.size < w8.heap.size := block_lt (hS.bx ⟨w2.heap.size,#[.bool false,.slice A1 N1 C1,.int .i64 (-1)],26⟩ (by simp))
 replace hS := hS.alloc #[.bool false,.slice A5 N5 C5,.int .i64 0] 26
 replace G1 := hide ((unhide G1).alloc (.cells #[.bool false,.slice A5 N5 C5,.int .i64 0] 26))
 replace G2 := hide ((unhide G2).alloc (.cells #[.bool false,.slice A5 N5 C5,.int .i64 0] 26))
 replace G3 := hide ((unhide G3).alloc (.cells #[.bool false,.slice A5 N5 C5,.int .i64 0] 26))
 replace G4 := hide ((unhide G4).alloc (.cells #[.bool false,.slice A5 N5 C5,.int .i64 0] 26))
 replace G5 := hide ((unhide G5).alloc (.cells #[.bool false,.slice A5 N5 C5,.int .i64 0] 26))
 have hZ6 := hS.size
 go_wp2_with fail
 refine (whole_any false 3 (-1) (by decide) _).mono ?_
 rintro e w9 ⟨⟨A6,N6,C6,rfl,f6⟩,hb9⟩
 replace hS := hS.kept hb9
 clear z8_0_0 z8_0_1 z8_0_2
 obtain ⟨⟨z9_0_0,z9_0_1,z9_0_2,-⟩,⟨z9_1_0,z9_1_1,z9_1_2,-⟩,-⟩ := hS.cells
 replace G1 := hide ((unhide G1).kept hb9)
 replace G2 := hide ((unhide G2).kept hb9)
 replace G3 := hide ((unhide G3).kept hb9)
 replace G4 := hide ((unhide G4).kept hb9)
 replace G5 := hide ((unhide G5).kept hb9)
 have G6 := hide (f6.mono hZ6)
 clear f6 hZ6
 have hZ7 := hS.size
 go_wp2_with fail
 refine (whole_any true 5 4 (by decide) _).mono ?_
 rintro e w10 ⟨⟨A7,N7,C7,rfl,f7⟩,hb10⟩
 replace hS := hS.kept hb10
 clear z9_0_0 z9_0_1 z9_0_2 z9_1_0 z9_1_1 z9_1_2
 obtain ⟨⟨z10_0_0,z10_0_1,z10_0_2,-⟩,⟨z10_1_0,z10_1_1,z10_1_2,-⟩,-⟩ := hS.cells
 replace G1 := hide ((unhide G1).kept hb10)
 replace G2 := hide ((unhide G2).kept hb10)
 replace G3 := hide ((unhide G3).kept hb10)
 replace G4 := hide ((unhide G4).kept hb10)
 replace G5 := hide ((unhide G5).kept hb10)
 replace G6 := hide ((unhide G6).kept hb10)
 have G7 := hide (f7.mono hZ7)
 clear f7 hZ7
 have hZ8 := hS.size
 go_wp2_with fail
 refine (av_mul A6 N6 C6 A7 N7 C7 _ (unhide G6).num (unhide G7).num).mono ?_
 rintro e w11 ⟨⟨A8,N8,C8,rfl,f8⟩,hb11⟩
 replace hS := hS.kept hb11
 clear z10_0_0 z10_0_1 z10_0_2 z10_1_0 z10_1_1 z10_1_2
 obtain ⟨⟨z11_0_0,z11_0_1,z11_0_2,-⟩,⟨z11_1_0,z11_1_1,z11_1_2,-⟩,-⟩ := hS.cells
 replace G1 := hide ((unhide G1).kept hb11)
 replace G2 := hide ((unhide G2).kept hb11)
 replace G3 := hide ((unhide G3).kept hb11)
 replace G4 := hide ((unhide G4).kept hb11)
 replace G5 := hide ((unhide G5).kept hb11)
 replace G6 := hide ((unhide G6).kept hb11)
 replace G7 := hide ((unhide G7).kept hb11)
 have G8 := hide (f8.mono hZ8)
 clear f8 hZ8
 have hltw11_0 : w8.heap.size < w11.heap.size := block_lt (hS.bx ⟨w8.heap.size,#[.bool false,.slice A5 N5 C5,.int .i64 0],26⟩ (by simp))
 have hltw11_1 : w2.heap.size < w11.heap.size := block_lt (hS.bx ⟨w2.heap.size,#[.bool false,.slice A1 N1 C1,.int .i64 (-1)],26⟩ (by simp))
 replace hS := hS.alloc #[.bool true,.slice A8 N8 C8,.int .i64 3] 26
 replace G1 := hide ((unhide G1).alloc (.cells #[.bool true,.slice A8 N8 C8,.int .i64 3] 26))
 replace G2 := hide ((unhide G2).alloc (.cells #[.bool true,.slice A8 N8 C8,.int .i64 3] 26))
 replace G3 := hide ((unhide G3).alloc (.cells #[.bool true,.slice A8 N8 C8,.int .i64 3] 26))
 replace G4 := hide ((unhide G4).alloc (.cells #[.bool true,.slice A8 N8 C8,.int .i64 3] 26))
 replace G5 := hide ((unhide G5).alloc (.cells #[.bool true,.slice A8 N8 C8,.int .i64 3] 26))
 replace G6 := hide ((unhide G6).alloc (.cells #[.bool true,.slice A8 N8 C8,.int .i64 3] 26))
 replace G7 := hide ((unhide G7).alloc (.cells #[.bool true,.slice A8 N8 C8,.int .i64 3] 26))
 replace G8 := hide ((unhide G8).alloc (.cells #[.bool true,.slice A8 N8 C8,.int .i64 3] 26))
 have hZ9 := hS.size
 go_wp2_with fail
 refine (whole_any true 1 3 (by decide) _).mono ?_
 rintro e w12 ⟨⟨A9,N9,C9,rfl,f9⟩,hb12⟩
 replace hS := hS.kept hb12
 clear z11_0_0 z11_0_1 z11_0_2 z11_1_0 z11_1_1 z11_1_2
 obtain ⟨⟨z12_0_0,z12_0_1,z12_0_2,-⟩,⟨z12_1_0,z12_1_1,z12_1_2,-⟩,⟨z12_2_0,z12_2_1,z12_2_2,-⟩,-⟩ := hS.cells
 replace G1 := hide ((unhide G1).kept hb12)
 replace G2 := hide ((unhide G2).kept hb12)
 replace G3 := hide ((unhide G3).kept hb12)
 replace G4 := hide ((unhide G4).kept hb12)
 replace G5 := hide ((unhide G5).kept hb12)
 replace G6 := hide ((unhide G6).kept hb12)
 replace G7 := hide ((unhide G7).kept hb12)
 replace G8 := hide ((unhide G8).kept hb12)
 have G9 := hide (f9.mono hZ9)
 clear f9 hZ9
 have hZ10 := hS.size
 go_wp2_with fail
 refine (whole_any true 5 1 (by decide) _).mono ?_
 rintro e w13 ⟨⟨A10,N10,C10,rfl,f10⟩,hb13⟩
 replace hS := hS.kept hb13
 clear z12_0_0 z12_0_1 z12_0_2 z12_1_0 z12_1_1 z12_1_2 z12_2_0 z12_2_1 z12_2_2
 obtain ⟨⟨z13_0_0,z13_0_1,z13_0_2,-⟩,⟨z13_1_0,z13_1_1,z13_1_2,-⟩,⟨z13_2_0,z13_2_1,z13_2_2,-⟩,-⟩ := hS.cells
 replace G1 := hide ((unhide G1).kept hb13)
 replace G2 := hide ((unhide G2).kept hb13)
 replace G3 := hide ((unhide G3).kept hb13)
 replace G4 := hide ((unhide G4).kept hb13)
 replace G5 := hide ((unhide G5).kept hb13)
 replace G6 := hide ((unhide G6).kept hb13)
 replace G7 := hide ((unhide G7).kept hb13)
 replace G8 := hide ((unhide G8).kept hb13)
 replace G9 := hide ((unhide G9).kept hb13)
 have G10 := hide (f10.mono hZ10)
 clear f10 hZ10
 go_wp2_with fail
 refine (av_cmp A9 N9 C9 A10 N10 C10 _ (unhide G9).num (unhide G10).num).mono ?_
 rintro e w14 ⟨rfl,hb14⟩
 replace hS := hS.kept hb14
 clear z13_0_0 z13_0_1 z13_0_2 z13_1_0 z13_1_1 z13_1_2 z13_2_0 z13_2_1 z13_2_2
 obtain ⟨⟨z14_0_0,z14_0_1,z14_0_2,-⟩,⟨z14_1_0,z14_1_1,z14_1_2,-⟩,⟨z14_2_0,z14_2_1,z14_2_2,-⟩,-⟩ := hS.cells
 replace G1 := hide ((unhide G1).kept hb14)
 replace G2 := hide ((unhide G2).kept hb14)
 replace G3 := hide ((unhide G3).kept hb14)
 replace G4 := hide ((unhide G4).kept hb14)
 replace G5 := hide ((unhide G5).kept hb14)
 replace G6 := hide ((unhide G6).kept hb14)
 replace G7 := hide ((unhide G7).kept hb14)
 replace G8 := hide ((unhide G8).kept hb14)
 replace G9 := hide ((unhide G9).kept hb14)
 replace G10 := hide ((unhide G10).kept hb14)
 go_wp2_with fail
 have hS3s : w.heap.size ≤ w14.heap.size := hS.size
 have hs9 : ∀ x9 : Nat × (Pk → World → Prop),x9 ∈ ([(20,fun q W => Mine W w.heap.size q.A q.N q.C 3),(32,fun q W => Mine W w.heap.size q.A q.N q.C 9),(37,fun q W => Mine W w.heap.size q.A q.N q.C 15),(45,fun _ W => Mine W w.heap.size A1 N1 C1 3),(46,fun _ W => Mine W w.heap.size A5 N5 C5 9),(47,fun _ W => Mine W w.heap.size A8 N8 C8 15)] : List (Nat × (Pk → World → Prop))) → ∀ q9 : Pk,St w.heap.size (x9.2 q9) := by
  intro x hx q
  simp only [List.mem_cons,List.not_mem_nil,or_false] at hx
  rcases hx with rfl | rfl | rfl | rfl | rfl | rfl
  ·exact st_mine _ _ _ _ _
  ·exact st_mine _ _ _ _ _
  ·exact st_mine _ _ _ _ _
  ·exact st_mine _ _ _ _ _
  ·exact st_mine _ _ _ _ _
  ·exact st_mine _ _ _ _ _
 have h09 : ∀ x9 : Nat × (Pk → World → Prop),x9 ∈ ([(20,fun q W => Mine W w.heap.size q.A q.N q.C 3),(32,fun q W => Mine W w.heap.size q.A q.N q.C 9),(37,fun q W => Mine W w.heap.size q.A q.N q.C 15),(45,fun _ W => Mine W w.heap.size A1 N1 C1 3),(46,fun _ W => Mine W w.heap.size A5 N5 C5 9),(47,fun _ W => Mine W w.heap.size A8 N8 C8 15)] : List (Nat × (Pk → World → Prop))) → 45 ≤ x9.1 → x9.2 ⟨none,0,0⟩ w14 := by
  intro x hx hn9
  simp only [List.mem_cons,List.not_mem_nil,or_false] at hx
  rcases hx with rfl | rfl | rfl | rfl | rfl | rfl
  ·exact absurd hn9 (by simp)
  ·exact absurd hn9 (by simp)
  ·exact absurd hn9 (by simp)
  ·exact unhide G1
  ·exact unhide G5
  ·exact unhide G8
 refine wp_region_any (by kernel_rfl) ?_
 refine wpAny_pick (fun p9 => [some (42,.int .i64 0),some (43,.bool true),some (44,.bool true),some (45,.int .i64 0),some (46,.bool true),some (47,.bool true),some (48,.bool true),some (49,.int .i64 0),some (50,.bool true),some (51,.bool true),some (52,.bool true),some (53,.int .i64 0),some (54,.bool true),some (55,.bool true),some (56,.bool true),some (57,.int .i64 0),some (58,.bool true),some (59,.bool true),some (60,.bool true),some (61,.agg #[.bool false,.slice A1 N1 C1,.int .i64 (-1)]),some (62,.agg #[.bool false,.slice (p9 20).A (p9 20).N (p9 20).C,.int .i64 (-1)]),some (63,.bool true),some (64,.bool true),some (65,.bool true),some (66,.int .u64 31743),some (67,.bool true),some (68,.bool true),some (69,.bool true),some (70,.bool true),some (71,.bool true),some (72,.bool true),some (73,.agg #[.bool false,.slice A5 N5 C5,.int .i64 0]),some (74,.agg #[.bool false,.slice (p9 32).A (p9 32).N (p9 32).C,.int .i64 0]),some (75,.bool true),some (76,.bool true),some (77,.bool true),some (78,.agg #[.bool true,.slice A8 N8 C8,.int .i64 3]),some (79,.agg #[.bool true,.slice (p9 37).A (p9 37).N (p9 37).C,.int .i64 3]),some (80,.bool true),some (81,.bool true),some (82,.bool true),some (83,.int .i64 1),some (84,.bool true),some (85,.bool true),some (0,.bool true)])
  (fun p9 l9 W9 => Pm w w.heap.size [(20,fun q W => Mine W w.heap.size q.A q.N q.C 3),(32,fun q W => Mine W w.heap.size q.A q.N q.C 9),(37,fun q W => Mine W w.heap.size q.A q.N q.C 15),(45,fun _ W => Mine W w.heap.size A1 N1 C1 3),(46,fun _ W => Mine W w.heap.size A5 N5 C5 9),(47,fun _ W => Mine W w.heap.size A8 N8 C8 15)] p9 l9 W9 [⟨w11.heap.size,#[.bool true,.slice A8 N8 C8,.int .i64 3],26⟩,⟨w8.heap.size,#[.bool false,.slice A5 N5 C5,.int .i64 0],26⟩,⟨w2.heap.size,#[.bool false,.slice A1 N1 C1,.int .i64 (-1)],26⟩]) _ _ (fun _ => rfl) (by kernel_rfl) (fun _ => rfl) (fun _ => rfl) ?_ ?_ (fun _ => ⟨none,0,0⟩) (Pm.start2 hS _ _ _ (hS.size) hs9 h09)
 ·intro p9 l9 t9 W9 i9 hD hi9 hl9 hM
  obtain ⟨o9,ho9,hd9⟩ := (mem_ready.1 hi9).2
  have hin9 : i9 < 45 := by
   by_cases h : i9 < 45
   ·exact h
   ·rw [Array.getElem?_eq_none (by rw [hD.len]; simp; omega)] at hl9; cases hl9
  have hcase : i9 = 0 ∨ i9 = 1 ∨ i9 = 2 ∨ i9 = 3 ∨ i9 = 4 ∨ i9 = 5 ∨ i9 = 6 ∨ i9 = 7 ∨ i9 = 8 ∨ i9 = 9 ∨ i9 = 10 ∨ i9 = 11 ∨ i9 = 12 ∨ i9 = 13 ∨ i9 = 14 ∨ i9 = 15 ∨ i9 = 16 ∨ i9 = 17 ∨ i9 = 18 ∨ i9 = 19 ∨ i9 = 20 ∨ i9 = 21 ∨ i9 = 22 ∨ i9 = 23 ∨ i9 = 24 ∨ i9 = 25 ∨ i9 = 26 ∨ i9 = 27 ∨ i9 = 28 ∨ i9 = 29 ∨ i9 = 30 ∨ i9 = 31 ∨ i9 = 32 ∨ i9 = 33 ∨ i9 = 34 ∨ i9 = 35 ∨ i9 = 36 ∨ i9 = 37 ∨ i9 = 38 ∨ i9 = 39 ∨ i9 = 40 ∨ i9 = 41 ∨ i9 = 42 ∨ i9 = 43 ∨ i9 = 44 := by omega
  clear hin9
  rcases hcase with rfl | rfl | rfl | rfl | rfl | rfl | rfl | rfl | rfl | rfl | rfl | rfl | rfl | rfl | rfl | rfl | rfl | rfl | rfl | rfl | rfl | rfl | rfl | rfl | rfl | rfl | rfl | rfl | rfl | rfl | rfl | rfl | rfl | rfl | rfl | rfl | rfl | rfl | rfl | rfl | rfl | rfl | rfl | rfl | rfl
  ·cases ho9
   have r2 := hD.old 2 _ rfl rfl
   clear hD hd9 hi9
   refine wpOp_step rfl (fun K hK => ?_)
   go_simp
   exact hK _ _ ⟨p9,fun _ _ => rfl,rfl,(hM.val rfl)⟩
  ·cases ho9
   have r42 := hD.on 0 42 _ rfl (getD_true (hd9 ⟨0,.data⟩ (by simp) rfl))
   clear hD hd9 hi9
   refine wpOp_step rfl (fun K hK => ?_)
   go_simp
   exact hK _ _ ⟨p9,fun _ _ => rfl,act_eq (by rfl),(hM.val rfl)⟩
  ·cases ho9
   have r43 := hD.on 1 43 _ rfl (getD_true (hd9 ⟨1,.data⟩ (by simp) rfl))
   clear hD hd9 hi9
   refine wpOp_step rfl (fun K hK => ?_)
   go_simp
   exact hK _ _ ⟨p9,fun _ _ => rfl,rfl,(hM.val rfl)⟩
  ·cases ho9
   have r44 := hD.on 2 44 _ rfl (getD_true (hd9 ⟨2,.guard⟩ (by simp) rfl))
   have r5 := hD.old 5 _ rfl rfl
   clear hD hd9 hi9
   refine wpOp_step rfl (fun K hK => ?_)
   go_simp
   exact hK _ _ ⟨p9,fun _ _ => rfl,rfl,(hM.val rfl)⟩
  ·cases ho9
   have r44 := hD.on 2 44 _ rfl (getD_true (hd9 ⟨2,.guard⟩ (by simp) rfl))
   have r45 := hD.on 3 45 _ rfl (getD_true (hd9 ⟨3,.data⟩ (by simp) rfl))
   clear hD hd9 hi9
   refine wpOp_step rfl (fun K hK => ?_)
   go_simp
   exact hK _ _ ⟨p9,fun _ _ => rfl,act_eq (by rfl),(hM.val rfl)⟩
  ·cases ho9
   have r44 := hD.on 2 44 _ rfl (getD_true (hd9 ⟨2,.data⟩ (by simp) rfl))
   have r46 := hD.on 4 46 _ rfl (getD_true (hd9 ⟨4,.data⟩ (by simp) rfl))
   clear hD hd9 hi9
   refine wpOp_step rfl (fun K hK => ?_)
   go_simp
   exact hK _ _ ⟨p9,fun _ _ => rfl,rfl,(hM.val rfl)⟩
  ·cases ho9
   have r47 := hD.on 5 47 _ rfl (getD_true (hd9 ⟨5,.data⟩ (by simp) rfl))
   clear hD hd9 hi9
   refine wpOp_step rfl (fun K hK => ?_)
   go_simp
   exact hK _ _ ⟨p9,fun _ _ => rfl,rfl,(hM.val rfl)⟩
  ·cases ho9
   have r48 := hD.on 6 48 _ rfl (getD_true (hd9 ⟨6,.guard⟩ (by simp) rfl))
   have r7 := hD.old 7 _ rfl rfl
   clear hD hd9 hi9
   refine wpOp_step rfl (fun K hK => ?_)
   go_simp
   exact hK _ _ ⟨p9,fun _ _ => rfl,rfl,(hM.val rfl)⟩
  ·cases ho9
   have r48 := hD.on 6 48 _ rfl (getD_true (hd9 ⟨6,.guard⟩ (by simp) rfl))
   have r49 := hD.on 7 49 _ rfl (getD_true (hd9 ⟨7,.data⟩ (by simp) rfl))
   clear hD hd9 hi9
   refine wpOp_step rfl (fun K hK => ?_)
   go_simp
   exact hK _ _ ⟨p9,fun _ _ => rfl,act_eq (by rfl),(hM.val rfl)⟩
  ·cases ho9
   have r48 := hD.on 6 48 _ rfl (getD_true (hd9 ⟨6,.data⟩ (by simp) rfl))
   have r50 := hD.on 8 50 _ rfl (getD_true (hd9 ⟨8,.data⟩ (by simp) rfl))
   clear hD hd9 hi9
   refine wpOp_step rfl (fun K hK => ?_)
   go_simp
   exact hK _ _ ⟨p9,fun _ _ => rfl,rfl,(hM.val rfl)⟩
  ·cases ho9
   have r51 := hD.on 9 51 _ rfl (getD_true (hd9 ⟨9,.data⟩ (by simp) rfl))
   clear hD hd9 hi9
   refine wpOp_step rfl (fun K hK => ?_)
   go_simp
   exact hK _ _ ⟨p9,fun _ _ => rfl,rfl,(hM.val rfl)⟩
  ·cases ho9
   have r52 := hD.on 10 52 _ rfl (getD_true (hd9 ⟨10,.guard⟩ (by simp) rfl))
   have r9 := hD.old 9 _ rfl rfl
   clear hD hd9 hi9
   refine wpOp_step rfl (fun K hK => ?_)
   go_simp
   exact hK _ _ ⟨p9,fun _ _ => rfl,rfl,(hM.val rfl)⟩
  ·cases ho9
   have r52 := hD.on 10 52 _ rfl (getD_true (hd9 ⟨10,.guard⟩ (by simp) rfl))
   have r53 := hD.on 11 53 _ rfl (getD_true (hd9 ⟨11,.data⟩ (by simp) rfl))
   clear hD hd9 hi9
   refine wpOp_step rfl (fun K hK => ?_)
   go_simp
   exact hK _ _ ⟨p9,fun _ _ => rfl,act_eq (by rfl),(hM.val rfl)⟩
  ·cases ho9
   have r52 := hD.on 10 52 _ rfl (getD_true (hd9 ⟨10,.data⟩ (by simp) rfl))
   have r54 := hD.on 12 54 _ rfl (getD_true (hd9 ⟨12,.data⟩ (by simp) rfl))
   clear hD hd9 hi9
   refine wpOp_step rfl (fun K hK => ?_)
   go_simp
   exact hK _ _ ⟨p9,fun _ _ => rfl,rfl,(hM.val rfl)⟩
  ·cases ho9
   have r55 := hD.on 13 55 _ rfl (getD_true (hd9 ⟨13,.data⟩ (by simp) rfl))
   clear hD hd9 hi9
   refine wpOp_step rfl (fun K hK => ?_)
   go_simp
   exact hK _ _ ⟨p9,fun _ _ => rfl,rfl,(hM.val rfl)⟩
  ·cases ho9
   have r56 := hD.on 14 56 _ rfl (getD_true (hd9 ⟨14,.guard⟩ (by simp) rfl))
   have r11 := hD.old 11 _ rfl rfl
   clear hD hd9 hi9
   refine wpOp_step rfl (fun K hK => ?_)
   go_simp
   exact hK _ _ ⟨p9,fun _ _ => rfl,rfl,(hM.val rfl)⟩
  ·cases ho9
   have r56 := hD.on 14 56 _ rfl (getD_true (hd9 ⟨14,.guard⟩ (by simp) rfl))
   have r57 := hD.on 15 57 _ rfl (getD_true (hd9 ⟨15,.data⟩ (by simp) rfl))
   clear hD hd9 hi9
   refine wpOp_step rfl (fun K hK => ?_)
   go_simp
   exact hK _ _ ⟨p9,fun _ _ => rfl,act_eq (by rfl),(hM.val rfl)⟩
  ·cases ho9
   have r56 := hD.on 14 56 _ rfl (getD_true (hd9 ⟨14,.data⟩ (by simp) rfl))
   have r58 := hD.on 16 58 _ rfl (getD_true (hd9 ⟨16,.data⟩ (by simp) rfl))
   clear hD hd9 hi9
   refine wpOp_step rfl (fun K hK => ?_)
   go_simp
   exact hK _ _ ⟨p9,fun _ _ => rfl,rfl,(hM.val rfl)⟩
  ·cases ho9
   have r59 := hD.on 17 59 _ rfl (getD_true (hd9 ⟨17,.data⟩ (by simp) rfl))
   clear hD hd9 hi9
   refine wpOp_step rfl (fun K hK => ?_)
   go_simp
   exact hK _ _ ⟨p9,fun _ _ => rfl,rfl,(hM.val rfl)⟩
  ·cases ho9
   have r60 := hD.on 18 60 _ rfl (getD_true (hd9 ⟨18,.guard⟩ (by simp) rfl))
   have r1 := hD.old 1 _ rfl rfl
   have hM0 := hM.st
   have c9_0 := hM0.cellAt (b := w2.heap.size) (cs := #[.bool false,.slice A1 N1 C1,.int .i64 (-1)]) (t := 26) (by simp) 0 _ rfl
   have c9_1 := hM0.cellAt (b := w2.heap.size) (cs := #[.bool false,.slice A1 N1 C1,.int .i64 (-1)]) (t := 26) (by simp) 1 _ rfl
   have c9_2 := hM0.cellAt (b := w2.heap.size) (cs := #[.bool false,.slice A1 N1 C1,.int .i64 (-1)]) (t := 26) (by simp) 2 _ rfl
   clear hM0
   clear hD hd9 hi9
   refine wpOp_step rfl (fun K hK => ?_)
   go_simp
   exact hK _ _ ⟨p9,fun _ _ => rfl,rfl,(hM.val rfl)⟩
  ·cases ho9
   have r60 := hD.on 18 60 _ rfl (getD_true (hd9 ⟨18,.chain⟩ (by simp) rfl))
   have ga0 := hM.fx _ (List.mem_of_getElem? (i := 3) rfl) (Or.inr (by rw [hD.len]; simp))
   simp only [] at ga0
   have ga1 := hM.fx _ (List.mem_of_getElem? (i := 4) rfl) (Or.inr (by rw [hD.len]; simp))
   simp only [] at ga1
   have ga2 := hM.fx _ (List.mem_of_getElem? (i := 5) rfl) (Or.inr (by rw [hD.len]; simp))
   simp only [] at ga2
   have HD := hide hD
   clear hD hd9 hi9
   refine wpOp_step rfl (fun K hK => ?_)
   go_simp
   go_wp2_with fail
   refine (whole_any false 3 (-1) (by decide) _).mono ?_
   rintro en w9 ⟨⟨a9,n9,c9,rfl,h9⟩,hb9⟩
   refine hK _ _ ⟨p9.set 20 ⟨a9,n9,c9⟩,?_,rfl,((hM.kept hs9 hb9).pick ⟨a9,n9,c9⟩ ?_)⟩
   ·intro k9 hk9
    clear hM hK
    match k9,hk9 with
    | 0,_ => rfl
    | 1,_ => rfl
    | 2,_ => rfl
    | 3,_ => rfl
    | 4,_ => rfl
    | 5,_ => rfl
    | 6,_ => rfl
    | 7,_ => rfl
    | 8,_ => rfl
    | 9,_ => rfl
    | 10,_ => rfl
    | 11,_ => rfl
    | 12,_ => rfl
    | 13,_ => rfl
    | 14,_ => rfl
    | 15,_ => rfl
    | 16,_ => rfl
    | 17,_ => rfl
    | 18,_ => rfl
    | 19,_ => rfl
    | 20,hk9 => exact absurd (hl9.symm.trans hk9) (by simp)
    | 21,hk9 => exact absurd (hl9.symm.trans (getD_true ((unhide HD).shut 21 _ (hk9) rfl ⟨20,.data⟩ (by simp) rfl))) (by simp)
    | 22,hk9 => exact absurd (hl9.symm.trans (getD_true ((unhide HD).shut 21 _ (getD_true ((unhide HD).shut 22 _ (hk9) rfl ⟨21,.data⟩ (by simp) rfl)) rfl ⟨20,.data⟩ (by simp) rfl))) (by simp)
    | 23,hk9 => exact absurd (hl9.symm.trans (getD_true ((unhide HD).shut 21 _ (getD_true ((unhide HD).shut 23 _ (hk9) rfl ⟨21,.chain⟩ (by simp) rfl)) rfl ⟨20,.data⟩ (by simp) rfl))) (by simp)
    | 24,hk9 => exact absurd (hl9.symm.trans (getD_true ((unhide HD).shut 21 _ (getD_true ((unhide HD).shut 23 _ (getD_true ((unhide HD).shut 24 _ (hk9) rfl ⟨23,.guard⟩ (by simp) rfl)) rfl ⟨21,.chain⟩ (by simp) rfl)) rfl ⟨20,.data⟩ (by simp) rfl))) (by simp)
    | 25,hk9 => exact absurd (hl9.symm.trans (getD_true ((unhide HD).shut 21 _ (getD_true ((unhide HD).shut 23 _ (getD_true ((unhide HD).shut 25 _ (hk9) rfl ⟨23,.guard⟩ (by simp) rfl)) rfl ⟨21,.chain⟩ (by simp) rfl)) rfl ⟨20,.data⟩ (by simp) rfl))) (by simp)
    | 26,hk9 => exact absurd (hl9.symm.trans (getD_true ((unhide HD).shut 21 _ (getD_true ((unhide HD).shut 23 _ (getD_true ((unhide HD).shut 26 _ (hk9) rfl ⟨23,.data⟩ (by simp) rfl)) rfl ⟨21,.chain⟩ (by simp) rfl)) rfl ⟨20,.data⟩ (by simp) rfl))) (by simp)
    | 27,hk9 => exact absurd (hl9.symm.trans (getD_true ((unhide HD).shut 21 _ (getD_true ((unhide HD).shut 23 _ (getD_true ((unhide HD).shut 27 _ (hk9) rfl ⟨23,.chain⟩ (by simp) rfl)) rfl ⟨21,.chain⟩ (by simp) rfl)) rfl ⟨20,.data⟩ (by simp) rfl))) (by simp)
    | 28,hk9 => exact absurd (hl9.symm.trans (getD_true ((unhide HD).shut 21 _ (getD_true ((unhide HD).shut 23 _ (getD_true ((unhide HD).shut 27 _ (getD_true ((unhide HD).shut 28 _ (hk9) rfl ⟨27,.guard⟩ (by simp) rfl)) rfl ⟨23,.chain⟩ (by simp) rfl)) rfl ⟨21,.chain⟩ (by simp) rfl)) rfl ⟨20,.data⟩ (by simp) rfl))) (by simp)
    | 29,hk9 => exact absurd (hl9.symm.trans (getD_true ((unhide HD).shut 21 _ (getD_true ((unhide HD).shut 23 _ (getD_true ((unhide HD).shut 27 _ (getD_true ((unhide HD).shut 29 _ (hk9) rfl ⟨27,.data⟩ (by simp) rfl)) rfl ⟨23,.chain⟩ (by simp) rfl)) rfl ⟨21,.chain⟩ (by simp) rfl)) rfl ⟨20,.data⟩ (by simp) rfl))) (by simp)
    | 30,hk9 => exact absurd (hl9.symm.trans (getD_true ((unhide HD).shut 21 _ (getD_true ((unhide HD).shut 23 _ (getD_true ((unhide HD).shut 27 _ (getD_true ((unhide HD).shut 30 _ (hk9) rfl ⟨27,.chain⟩ (by simp) rfl)) rfl ⟨23,.chain⟩ (by simp) rfl)) rfl ⟨21,.chain⟩ (by simp) rfl)) rfl ⟨20,.data⟩ (by simp) rfl))) (by simp)
    | 31,hk9 => exact absurd (hl9.symm.trans (getD_true ((unhide HD).shut 21 _ (getD_true ((unhide HD).shut 23 _ (getD_true ((unhide HD).shut 27 _ (getD_true ((unhide HD).shut 30 _ (getD_true ((unhide HD).shut 31 _ (hk9) rfl ⟨30,.guard⟩ (by simp) rfl)) rfl ⟨27,.chain⟩ (by simp) rfl)) rfl ⟨23,.chain⟩ (by simp) rfl)) rfl ⟨21,.chain⟩ (by simp) rfl)) rfl ⟨20,.data⟩ (by simp) rfl))) (by simp)
    | 32,hk9 => exact absurd (hl9.symm.trans (getD_true ((unhide HD).shut 21 _ (getD_true ((unhide HD).shut 23 _ (getD_true ((unhide HD).shut 27 _ (getD_true ((unhide HD).shut 30 _ (getD_true ((unhide HD).shut 32 _ (hk9) rfl ⟨30,.chain⟩ (by simp) rfl)) rfl ⟨27,.chain⟩ (by simp) rfl)) rfl ⟨23,.chain⟩ (by simp) rfl)) rfl ⟨21,.chain⟩ (by simp) rfl)) rfl ⟨20,.data⟩ (by simp) rfl))) (by simp)
    | 33,hk9 => exact absurd (hl9.symm.trans (getD_true ((unhide HD).shut 21 _ (getD_true ((unhide HD).shut 23 _ (getD_true ((unhide HD).shut 27 _ (getD_true ((unhide HD).shut 30 _ (getD_true ((unhide HD).shut 33 _ (hk9) rfl ⟨30,.guard⟩ (by simp) rfl)) rfl ⟨27,.chain⟩ (by simp) rfl)) rfl ⟨23,.chain⟩ (by simp) rfl)) rfl ⟨21,.chain⟩ (by simp) rfl)) rfl ⟨20,.data⟩ (by simp) rfl))) (by simp)
    | 34,hk9 => exact absurd (hl9.symm.trans (getD_true ((unhide HD).shut 21 _ (getD_true ((unhide HD).shut 23 _ (getD_true ((unhide HD).shut 27 _ (getD_true ((unhide HD).shut 30 _ (getD_true ((unhide HD).shut 34 _ (hk9) rfl ⟨30,.data⟩ (by simp) rfl)) rfl ⟨27,.chain⟩ (by simp) rfl)) rfl ⟨23,.chain⟩ (by simp) rfl)) rfl ⟨21,.chain⟩ (by simp) rfl)) rfl ⟨20,.data⟩ (by simp) rfl))) (by simp)
    | 35,hk9 => exact absurd (hl9.symm.trans (getD_true ((unhide HD).shut 21 _ (getD_true ((unhide HD).shut 23 _ (getD_true ((unhide HD).shut 27 _ (getD_true ((unhide HD).shut 30 _ (getD_true ((unhide HD).shut 34 _ (getD_true ((unhide HD).shut 35 _ (hk9) rfl ⟨34,.data⟩ (by simp) rfl)) rfl ⟨30,.data⟩ (by simp) rfl)) rfl ⟨27,.chain⟩ (by simp) rfl)) rfl ⟨23,.chain⟩ (by simp) rfl)) rfl ⟨21,.chain⟩ (by simp) rfl)) rfl ⟨20,.data⟩ (by simp) rfl))) (by simp)
    | 36,hk9 => exact absurd (hl9.symm.trans (getD_true ((unhide HD).shut 21 _ (getD_true ((unhide HD).shut 23 _ (getD_true ((unhide HD).shut 27 _ (getD_true ((unhide HD).shut 30 _ (getD_true ((unhide HD).shut 34 _ (getD_true ((unhide HD).shut 35 _ (getD_true ((unhide HD).shut 36 _ (hk9) rfl ⟨35,.guard⟩ (by simp) rfl)) rfl ⟨34,.data⟩ (by simp) rfl)) rfl ⟨30,.data⟩ (by simp) rfl)) rfl ⟨27,.chain⟩ (by simp) rfl)) rfl ⟨23,.chain⟩ (by simp) rfl)) rfl ⟨21,.chain⟩ (by simp) rfl)) rfl ⟨20,.data⟩ (by simp) rfl))) (by simp)
    | 37,hk9 => exact absurd (hl9.symm.trans (getD_true ((unhide HD).shut 21 _ (getD_true ((unhide HD).shut 23 _ (getD_true ((unhide HD).shut 27 _ (getD_true ((unhide HD).shut 30 _ (getD_true ((unhide HD).shut 34 _ (getD_true ((unhide HD).shut 35 _ (getD_true ((unhide HD).shut 37 _ (hk9) rfl ⟨35,.chain⟩ (by simp) rfl)) rfl ⟨34,.data⟩ (by simp) rfl)) rfl ⟨30,.data⟩ (by simp) rfl)) rfl ⟨27,.chain⟩ (by simp) rfl)) rfl ⟨23,.chain⟩ (by simp) rfl)) rfl ⟨21,.chain⟩ (by simp) rfl)) rfl ⟨20,.data⟩ (by simp) rfl))) (by simp)
    | 38,hk9 => exact absurd (hl9.symm.trans (getD_true ((unhide HD).shut 21 _ (getD_true ((unhide HD).shut 23 _ (getD_true ((unhide HD).shut 27 _ (getD_true ((unhide HD).shut 30 _ (getD_true ((unhide HD).shut 34 _ (getD_true ((unhide HD).shut 35 _ (getD_true ((unhide HD).shut 38 _ (hk9) rfl ⟨35,.guard⟩ (by simp) rfl)) rfl ⟨34,.data⟩ (by simp) rfl)) rfl ⟨30,.data⟩ (by simp) rfl)) rfl ⟨27,.chain⟩ (by simp) rfl)) rfl ⟨23,.chain⟩ (by simp) rfl)) rfl ⟨21,.chain⟩ (by simp) rfl)) rfl ⟨20,.data⟩ (by simp) rfl))) (by simp)
    | 39,hk9 => exact absurd (hl9.symm.trans (getD_true ((unhide HD).shut 21 _ (getD_true ((unhide HD).shut 23 _ (getD_true ((unhide HD).shut 27 _ (getD_true ((unhide HD).shut 30 _ (getD_true ((unhide HD).shut 34 _ (getD_true ((unhide HD).shut 35 _ (getD_true ((unhide HD).shut 39 _ (hk9) rfl ⟨35,.data⟩ (by simp) rfl)) rfl ⟨34,.data⟩ (by simp) rfl)) rfl ⟨30,.data⟩ (by simp) rfl)) rfl ⟨27,.chain⟩ (by simp) rfl)) rfl ⟨23,.chain⟩ (by simp) rfl)) rfl ⟨21,.chain⟩ (by simp) rfl)) rfl ⟨20,.data⟩ (by simp) rfl))) (by simp)
    | 40,hk9 => exact absurd (hl9.symm.trans (getD_true ((unhide HD).shut 21 _ (getD_true ((unhide HD).shut 23 _ (getD_true ((unhide HD).shut 27 _ (getD_true ((unhide HD).shut 30 _ (getD_true ((unhide HD).shut 34 _ (getD_true ((unhide HD).shut 35 _ (getD_true ((unhide HD).shut 39 _ (getD_true ((unhide HD).shut 40 _ (hk9) rfl ⟨39,.data⟩ (by simp) rfl)) rfl ⟨35,.data⟩ (by simp) rfl)) rfl ⟨34,.data⟩ (by simp) rfl)) rfl ⟨30,.data⟩ (by simp) rfl)) rfl ⟨27,.chain⟩ (by simp) rfl)) rfl ⟨23,.chain⟩ (by simp) rfl)) rfl ⟨21,.chain⟩ (by simp) rfl)) rfl ⟨20,.data⟩ (by simp) rfl))) (by simp)
    | 41,hk9 => exact absurd (hl9.symm.trans (getD_true ((unhide HD).shut 21 _ (getD_true ((unhide HD).shut 23 _ (getD_true ((unhide HD).shut 27 _ (getD_true ((unhide HD).shut 30 _ (getD_true ((unhide HD).shut 34 _ (getD_true ((unhide HD).shut 35 _ (getD_true ((unhide HD).shut 39 _ (getD_true ((unhide HD).shut 40 _ (getD_true ((unhide HD).shut 41 _ (hk9) rfl ⟨40,.guard⟩ (by simp) rfl)) rfl ⟨39,.data⟩ (by simp) rfl)) rfl ⟨35,.data⟩ (by simp) rfl)) rfl ⟨34,.data⟩ (by simp) rfl)) rfl ⟨30,.data⟩ (by simp) rfl)) rfl ⟨27,.chain⟩ (by simp) rfl)) rfl ⟨23,.chain⟩ (by simp) rfl)) rfl ⟨21,.chain⟩ (by simp) rfl)) rfl ⟨20,.data⟩ (by simp) rfl))) (by simp)
    | 42,hk9 => exact absurd (hl9.symm.trans (getD_true ((unhide HD).shut 21 _ (getD_true ((unhide HD).shut 23 _ (getD_true ((unhide HD).shut 27 _ (getD_true ((unhide HD).shut 30 _ (getD_true ((unhide HD).shut 34 _ (getD_true ((unhide HD).shut 35 _ (getD_true ((unhide HD).shut 39 _ (getD_true ((unhide HD).shut 40 _ (getD_true ((unhide HD).shut 42 _ (hk9) rfl ⟨40,.guard⟩ (by simp) rfl)) rfl ⟨39,.data⟩ (by simp) rfl)) rfl ⟨35,.data⟩ (by simp) rfl)) rfl ⟨34,.data⟩ (by simp) rfl)) rfl ⟨30,.data⟩ (by simp) rfl)) rfl ⟨27,.chain⟩ (by simp) rfl)) rfl ⟨23,.chain⟩ (by simp) rfl)) rfl ⟨21,.chain⟩ (by simp) rfl)) rfl ⟨20,.data⟩ (by simp) rfl))) (by simp)
    | 43,hk9 => exact absurd (hl9.symm.trans (getD_true ((unhide HD).shut 21 _ (getD_true ((unhide HD).shut 23 _ (getD_true ((unhide HD).shut 27 _ (getD_true ((unhide HD).shut 30 _ (getD_true ((unhide HD).shut 34 _ (getD_true ((unhide HD).shut 35 _ (getD_true ((unhide HD).shut 39 _ (getD_true ((unhide HD).shut 40 _ (getD_true ((unhide HD).shut 43 _ (hk9) rfl ⟨40,.data⟩ (by simp) rfl)) rfl ⟨39,.data⟩ (by simp) rfl)) rfl ⟨35,.data⟩ (by simp) rfl)) rfl ⟨34,.data⟩ (by simp) rfl)) rfl ⟨30,.data⟩ (by simp) rfl)) rfl ⟨27,.chain⟩ (by simp) rfl)) rfl ⟨23,.chain⟩ (by simp) rfl)) rfl ⟨21,.chain⟩ (by simp) rfl)) rfl ⟨20,.data⟩ (by simp) rfl))) (by simp)
    | 44,hk9 => exact absurd (hl9.symm.trans (getD_true ((unhide HD).shut 44 _ (hk9) rfl ⟨20,.phase⟩ (by simp) rfl))) (by simp)
    | k9 + 45,_ => rfl
   ·intro x hx he; simp only [List.mem_cons,List.not_mem_nil,or_false] at hx; rcases hx with rfl | rfl | rfl | rfl | rfl | rfl
    ·exact h9.mono hM.bw
    ·exact absurd he (by simp)
    ·exact absurd he (by simp)
    ·exact absurd he (by simp)
    ·exact absurd he (by simp)
    ·exact absurd he (by simp)
  ·cases ho9
   have r60 := hD.on 18 60 _ rfl (getD_true (hd9 ⟨18,.guard⟩ (by simp) rfl))
   have r61 := hD.on 19 61 _ rfl (getD_true (hd9 ⟨19,.data⟩ (by simp) rfl))
   have r62 := hD.on 20 62 _ rfl (getD_true (hd9 ⟨20,.data⟩ (by simp) rfl))
   have ga0 := hM.fx _ (List.mem_of_getElem? (i := 3) rfl) (Or.inr (by rw [hD.len]; simp))
   simp only [] at ga0
   have ga1 := hM.fx _ (List.mem_of_getElem? (i := 4) rfl) (Or.inr (by rw [hD.len]; simp))
   simp only [] at ga1
   have ga2 := hM.fx _ (List.mem_of_getElem? (i := 5) rfl) (Or.inr (by rw [hD.len]; simp))
   simp only [] at ga2
   have g20 := hM.fx _ (List.mem_of_getElem? (i := 0) rfl) (Or.inl (getD_true (hd9 ⟨20,.data⟩ (by simp) rfl)))
   simp only [] at g20
   clear hD hd9 hi9
   refine wpOp_step rfl (fun K hK => ?_)
   go_simp
   go_wp2_with fail
   refine (dsame_any false A1 N1 C1 3 (p9 20).A (p9 20).N (p9 20).C (-1) _ ga0.num g20.num).mono ?_
   rintro en w9 ⟨rfl,hb9⟩
   exact hK _ _ ⟨p9,fun _ _ => rfl,rfl,((hM.kept hs9 hb9).val rfl)⟩
  ·cases ho9
   have r60 := hD.on 18 60 _ rfl (getD_true (hd9 ⟨18,.data⟩ (by simp) rfl))
   have r63 := hD.on 21 63 _ rfl (getD_true (hd9 ⟨21,.data⟩ (by simp) rfl))
   clear hD hd9 hi9
   refine wpOp_step rfl (fun K hK => ?_)
   go_simp
   exact hK _ _ ⟨p9,fun _ _ => rfl,rfl,(hM.val rfl)⟩
  ·cases ho9
   have r64 := hD.on 22 64 _ rfl (getD_true (hd9 ⟨22,.data⟩ (by simp) rfl))
   clear hD hd9 hi9
   refine wpOp_step rfl (fun K hK => ?_)
   go_simp
   exact hK _ _ ⟨p9,fun _ _ => rfl,rfl,(hM.val rfl)⟩
  ·cases ho9
   have r65 := hD.on 23 65 _ rfl (getD_true (hd9 ⟨23,.guard⟩ (by simp) rfl))
   have r3 := hD.old 3 _ rfl rfl
   clear hD hd9 hi9
   refine wpOp_step rfl (fun K hK => ?_)
   go_simp
   exact hK _ _ ⟨p9,fun _ _ => rfl,rfl,(hM.val rfl)⟩
  ·cases ho9
   have r65 := hD.on 23 65 _ rfl (getD_true (hd9 ⟨23,.guard⟩ (by simp) rfl))
   have r66 := hD.on 24 66 _ rfl (getD_true (hd9 ⟨24,.data⟩ (by simp) rfl))
   clear hD hd9 hi9
   refine wpOp_step rfl (fun K hK => ?_)
   go_simp
   exact hK _ _ ⟨p9,fun _ _ => rfl,act_eq (by rfl),(hM.val rfl)⟩
  ·cases ho9
   have r65 := hD.on 23 65 _ rfl (getD_true (hd9 ⟨23,.data⟩ (by simp) rfl))
   have r67 := hD.on 25 67 _ rfl (getD_true (hd9 ⟨25,.data⟩ (by simp) rfl))
   clear hD hd9 hi9
   refine wpOp_step rfl (fun K hK => ?_)
   go_simp
   exact hK _ _ ⟨p9,fun _ _ => rfl,rfl,(hM.val rfl)⟩
  ·cases ho9
   have r68 := hD.on 26 68 _ rfl (getD_true (hd9 ⟨26,.data⟩ (by simp) rfl))
   clear hD hd9 hi9
   refine wpOp_step rfl (fun K hK => ?_)
   go_simp
   exact hK _ _ ⟨p9,fun _ _ => rfl,rfl,(hM.val rfl)⟩
  ·cases ho9
   have r69 := hD.on 27 69 _ rfl (getD_true (hd9 ⟨27,.guard⟩ (by simp) rfl))
   have r4 := hD.old 4 _ rfl rfl
   clear hD hd9 hi9
   refine wpOp_step rfl (fun K hK => ?_)
   go_simp
   exact hK _ _ ⟨p9,fun _ _ => rfl,rfl,(hM.val rfl)⟩
  ·cases ho9
   have r69 := hD.on 27 69 _ rfl (getD_true (hd9 ⟨27,.data⟩ (by simp) rfl))
   have r70 := hD.on 28 70 _ rfl (getD_true (hd9 ⟨28,.data⟩ (by simp) rfl))
   clear hD hd9 hi9
   refine wpOp_step rfl (fun K hK => ?_)
   go_simp
   exact hK _ _ ⟨p9,fun _ _ => rfl,rfl,(hM.val rfl)⟩
  ·cases ho9
   have r71 := hD.on 29 71 _ rfl (getD_true (hd9 ⟨29,.data⟩ (by simp) rfl))
   clear hD hd9 hi9
   refine wpOp_step rfl (fun K hK => ?_)
   go_simp
   exact hK _ _ ⟨p9,fun _ _ => rfl,rfl,(hM.val rfl)⟩
  ·cases ho9
   have r72 := hD.on 30 72 _ rfl (getD_true (hd9 ⟨30,.guard⟩ (by simp) rfl))
   have r6 := hD.old 6 _ rfl rfl
   have hM0 := hM.st
   have c9_0 := hM0.cellAt (b := w8.heap.size) (cs := #[.bool false,.slice A5 N5 C5,.int .i64 0]) (t := 26) (by simp) 0 _ rfl
   have c9_1 := hM0.cellAt (b := w8.heap.size) (cs := #[.bool false,.slice A5 N5 C5,.int .i64 0]) (t := 26) (by simp) 1 _ rfl
   have c9_2 := hM0.cellAt (b := w8.heap.size) (cs := #[.bool false,.slice A5 N5 C5,.int .i64 0]) (t := 26) (by simp) 2 _ rfl
   clear hM0
   clear hD hd9 hi9
   refine wpOp_step rfl (fun K hK => ?_)
   go_simp
   exact hK _ _ ⟨p9,fun _ _ => rfl,rfl,(hM.val rfl)⟩
  ·cases ho9
   have r72 := hD.on 30 72 _ rfl (getD_true (hd9 ⟨30,.chain⟩ (by simp) rfl))
   have ga0 := hM.fx _ (List.mem_of_getElem? (i := 3) rfl) (Or.inr (by rw [hD.len]; simp))
   simp only [] at ga0
   have ga1 := hM.fx _ (List.mem_of_getElem? (i := 4) rfl) (Or.inr (by rw [hD.len]; simp))
   simp only [] at ga1
   have ga2 := hM.fx _ (List.mem_of_getElem? (i := 5) rfl) (Or.inr (by rw [hD.len]; simp))
   simp only [] at ga2
   have g20 := hM.fx _ (List.mem_of_getElem? (i := 0) rfl) (Or.inl (getD_true (hD.shut 21 _ (getD_true (hD.shut 22 _ (getD_true (hD.shut 23 _ (getD_true (hD.shut 26 _ (getD_true (hD.shut 27 _ (getD_true (hD.shut 29 _ (getD_true (hD.shut 30 _ (getD_true (hd9 ⟨30,.chain⟩ (by simp) rfl)) rfl ⟨29,.data⟩ (by simp) rfl)) rfl ⟨27,.data⟩ (by simp) rfl)) rfl ⟨26,.data⟩ (by simp) rfl)) rfl ⟨23,.data⟩ (by simp) rfl)) rfl ⟨22,.data⟩ (by simp) rfl)) rfl ⟨21,.data⟩ (by simp) rfl)) rfl ⟨20,.data⟩ (by simp) rfl)))
   simp only [] at g20
   have HD := hide hD
   clear hD hd9 hi9
   refine wpOp_step rfl (fun K hK => ?_)
   go_simp
   go_wp2_with fail
   refine (whole_any false 9 0 (by decide) _).mono ?_
   rintro en w9 ⟨⟨a9,n9,c9,rfl,h9⟩,hb9⟩
   refine hK _ _ ⟨p9.set 32 ⟨a9,n9,c9⟩,?_,rfl,((hM.kept hs9 hb9).pick ⟨a9,n9,c9⟩ ?_)⟩
   ·intro k9 hk9
    clear hM hK
    match k9,hk9 with
    | 0,_ => rfl
    | 1,_ => rfl
    | 2,_ => rfl
    | 3,_ => rfl
    | 4,_ => rfl
    | 5,_ => rfl
    | 6,_ => rfl
    | 7,_ => rfl
    | 8,_ => rfl
    | 9,_ => rfl
    | 10,_ => rfl
    | 11,_ => rfl
    | 12,_ => rfl
    | 13,_ => rfl
    | 14,_ => rfl
    | 15,_ => rfl
    | 16,_ => rfl
    | 17,_ => rfl
    | 18,_ => rfl
    | 19,_ => rfl
    | 20,_ => rfl
    | 21,_ => rfl
    | 22,_ => rfl
    | 23,_ => rfl
    | 24,_ => rfl
    | 25,_ => rfl
    | 26,_ => rfl
    | 27,_ => rfl
    | 28,_ => rfl
    | 29,_ => rfl
    | 30,_ => rfl
    | 31,_ => rfl
    | 32,hk9 => exact absurd (hl9.symm.trans hk9) (by simp)
    | 33,hk9 => exact absurd (hl9.symm.trans (getD_true ((unhide HD).shut 33 _ (hk9) rfl ⟨32,.data⟩ (by simp) rfl))) (by simp)
    | 34,hk9 => exact absurd (hl9.symm.trans (getD_true ((unhide HD).shut 33 _ (getD_true ((unhide HD).shut 34 _ (hk9) rfl ⟨33,.data⟩ (by simp) rfl)) rfl ⟨32,.data⟩ (by simp) rfl))) (by simp)
    | 35,hk9 => exact absurd (hl9.symm.trans (getD_true ((unhide HD).shut 33 _ (getD_true ((unhide HD).shut 35 _ (hk9) rfl ⟨33,.chain⟩ (by simp) rfl)) rfl ⟨32,.data⟩ (by simp) rfl))) (by simp)
    | 36,hk9 => exact absurd (hl9.symm.trans (getD_true ((unhide HD).shut 33 _ (getD_true ((unhide HD).shut 35 _ (getD_true ((unhide HD).shut 36 _ (hk9) rfl ⟨35,.guard⟩ (by simp) rfl)) rfl ⟨33,.chain⟩ (by simp) rfl)) rfl ⟨32,.data⟩ (by simp) rfl))) (by simp)
    | 37,hk9 => exact absurd (hl9.symm.trans (getD_true ((unhide HD).shut 33 _ (getD_true ((unhide HD).shut 35 _ (getD_true ((unhide HD).shut 37 _ (hk9) rfl ⟨35,.chain⟩ (by simp) rfl)) rfl ⟨33,.chain⟩ (by simp) rfl)) rfl ⟨32,.data⟩ (by simp) rfl))) (by simp)
    | 38,hk9 => exact absurd (hl9.symm.trans (getD_true ((unhide HD).shut 33 _ (getD_true ((unhide HD).shut 35 _ (getD_true ((unhide HD).shut 38 _ (hk9) rfl ⟨35,.guard⟩ (by simp) rfl)) rfl ⟨33,.chain⟩ (by simp) rfl)) rfl ⟨32,.data⟩ (by simp) rfl))) (by simp)
    | 39,hk9 => exact absurd (hl9.symm.trans (getD_true ((unhide HD).shut 33 _ (getD_true ((unhide HD).shut 35 _ (getD_true ((unhide HD).shut 39 _ (hk9) rfl ⟨35,.data⟩ (by simp) rfl)) rfl ⟨33,.chain⟩ (by simp) rfl)) rfl ⟨32,.data⟩ (by simp) rfl))) (by simp)
    | 40,hk9 => exact absurd (hl9.symm.trans (getD_true ((unhide HD).shut 33 _ (getD_true ((unhide HD).shut 35 _ (getD_true ((unhide HD).shut 39 _ (getD_true ((unhide HD).shut 40 _ (hk9) rfl ⟨39,.data⟩ (by simp) rfl)) rfl ⟨35,.data⟩ (by simp) rfl)) rfl ⟨33,.chain⟩ (by simp) rfl)) rfl ⟨32,.data⟩ (by simp) rfl))) (by simp)
    | 41,hk9 => exact absurd (hl9.symm.trans (getD_true ((unhide HD).shut 33 _ (getD_true ((unhide HD).shut 35 _ (getD_true ((unhide HD).shut 39 _ (getD_true ((unhide HD).shut 40 _ (getD_true ((unhide HD).shut 41 _ (hk9) rfl ⟨40,.guard⟩ (by simp) rfl)) rfl ⟨39,.data⟩ (by simp) rfl)) rfl ⟨35,.data⟩ (by simp) rfl)) rfl ⟨33,.chain⟩ (by simp) rfl)) rfl ⟨32,.data⟩ (by simp) rfl))) (by simp)
    | 42,hk9 => exact absurd (hl9.symm.trans (getD_true ((unhide HD).shut 33 _ (getD_true ((unhide HD).shut 35 _ (getD_true ((unhide HD).shut 39 _ (getD_true ((unhide HD).shut 40 _ (getD_true ((unhide HD).shut 42 _ (hk9) rfl ⟨40,.guard⟩ (by simp) rfl)) rfl ⟨39,.data⟩ (by simp) rfl)) rfl ⟨35,.data⟩ (by simp) rfl)) rfl ⟨33,.chain⟩ (by simp) rfl)) rfl ⟨32,.data⟩ (by simp) rfl))) (by simp)
    | 43,hk9 => exact absurd (hl9.symm.trans (getD_true ((unhide HD).shut 33 _ (getD_true ((unhide HD).shut 35 _ (getD_true ((unhide HD).shut 39 _ (getD_true ((unhide HD).shut 40 _ (getD_true ((unhide HD).shut 43 _ (hk9) rfl ⟨40,.data⟩ (by simp) rfl)) rfl ⟨39,.data⟩ (by simp) rfl)) rfl ⟨35,.data⟩ (by simp) rfl)) rfl ⟨33,.chain⟩ (by simp) rfl)) rfl ⟨32,.data⟩ (by simp) rfl))) (by simp)
    | 44,hk9 => exact absurd (hl9.symm.trans (getD_true ((unhide HD).shut 44 _ (hk9) rfl ⟨32,.phase⟩ (by simp) rfl))) (by simp)
    | k9 + 45,_ => rfl
   ·intro x hx he; simp only [List.mem_cons,List.not_mem_nil,or_false] at hx; rcases hx with rfl | rfl | rfl | rfl | rfl | rfl
    ·exact absurd he (by simp)
    ·exact h9.mono hM.bw
    ·exact absurd he (by simp)
    ·exact absurd he (by simp)
    ·exact absurd he (by simp)
    ·exact absurd he (by simp)
  ·cases ho9
   have r72 := hD.on 30 72 _ rfl (getD_true (hd9 ⟨30,.guard⟩ (by simp) rfl))
   have r73 := hD.on 31 73 _ rfl (getD_true (hd9 ⟨31,.data⟩ (by simp) rfl))
   have r74 := hD.on 32 74 _ rfl (getD_true (hd9 ⟨32,.data⟩ (by simp) rfl))
   have ga0 := hM.fx _ (List.mem_of_getElem? (i := 3) rfl) (Or.inr (by rw [hD.len]; simp))
   simp only [] at ga0
   have ga1 := hM.fx _ (List.mem_of_getElem? (i := 4) rfl) (Or.inr (by rw [hD.len]; simp))
   simp only [] at ga1
   have ga2 := hM.fx _ (List.mem_of_getElem? (i := 5) rfl) (Or.inr (by rw [hD.len]; simp))
   simp only [] at ga2
   have g20 := hM.fx _ (List.mem_of_getElem? (i := 0) rfl) (Or.inl (getD_true (hD.shut 21 _ (getD_true (hD.shut 22 _ (getD_true (hD.shut 23 _ (getD_true (hD.shut 26 _ (getD_true (hD.shut 27 _ (getD_true (hD.shut 29 _ (getD_true (hD.shut 30 _ (getD_true (hD.shut 31 _ (getD_true (hd9 ⟨31,.data⟩ (by simp) rfl)) rfl ⟨30,.guard⟩ (by simp) rfl)) rfl ⟨29,.data⟩ (by simp) rfl)) rfl ⟨27,.data⟩ (by simp) rfl)) rfl ⟨26,.data⟩ (by simp) rfl)) rfl ⟨23,.data⟩ (by simp) rfl)) rfl ⟨22,.data⟩ (by simp) rfl)) rfl ⟨21,.data⟩ (by simp) rfl)) rfl ⟨20,.data⟩ (by simp) rfl)))
   simp only [] at g20
   have g32 := hM.fx _ (List.mem_of_getElem? (i := 1) rfl) (Or.inl (getD_true (hd9 ⟨32,.data⟩ (by simp) rfl)))
   simp only [] at g32
   clear hD hd9 hi9
   refine wpOp_step rfl (fun K hK => ?_)
   go_simp
   go_wp2_with fail
   refine (dsame_any false A5 N5 C5 9 (p9 32).A (p9 32).N (p9 32).C 0 _ ga1.num g32.num).mono ?_
   rintro en w9 ⟨rfl,hb9⟩
   exact hK _ _ ⟨p9,fun _ _ => rfl,rfl,((hM.kept hs9 hb9).val rfl)⟩
  ·cases ho9
   have r72 := hD.on 30 72 _ rfl (getD_true (hd9 ⟨30,.data⟩ (by simp) rfl))
   have r75 := hD.on 33 75 _ rfl (getD_true (hd9 ⟨33,.data⟩ (by simp) rfl))
   clear hD hd9 hi9
   refine wpOp_step rfl (fun K hK => ?_)
   go_simp
   exact hK _ _ ⟨p9,fun _ _ => rfl,rfl,(hM.val rfl)⟩
  ·cases ho9
   have r76 := hD.on 34 76 _ rfl (getD_true (hd9 ⟨34,.data⟩ (by simp) rfl))
   clear hD hd9 hi9
   refine wpOp_step rfl (fun K hK => ?_)
   go_simp
   exact hK _ _ ⟨p9,fun _ _ => rfl,rfl,(hM.val rfl)⟩
  ·cases ho9
   have r77 := hD.on 35 77 _ rfl (getD_true (hd9 ⟨35,.guard⟩ (by simp) rfl))
   have r8 := hD.old 8 _ rfl rfl
   have hM0 := hM.st
   have c9_0 := hM0.cellAt (b := w11.heap.size) (cs := #[.bool true,.slice A8 N8 C8,.int .i64 3]) (t := 26) (by simp) 0 _ rfl
   have c9_1 := hM0.cellAt (b := w11.heap.size) (cs := #[.bool true,.slice A8 N8 C8,.int .i64 3]) (t := 26) (by simp) 1 _ rfl
   have c9_2 := hM0.cellAt (b := w11.heap.size) (cs := #[.bool true,.slice A8 N8 C8,.int .i64 3]) (t := 26) (by simp) 2 _ rfl
   clear hM0
   clear hD hd9 hi9
   refine wpOp_step rfl (fun K hK => ?_)
   go_simp
   exact hK _ _ ⟨p9,fun _ _ => rfl,rfl,(hM.val rfl)⟩
  ·cases ho9
   have r77 := hD.on 35 77 _ rfl (getD_true (hd9 ⟨35,.chain⟩ (by simp) rfl))
   have ga0 := hM.fx _ (List.mem_of_getElem? (i := 3) rfl) (Or.inr (by rw [hD.len]; simp))
   simp only [] at ga0
   have ga1 := hM.fx _ (List.mem_of_getElem? (i := 4) rfl) (Or.inr (by rw [hD.len]; simp))
   simp only [] at ga1
   have ga2 := hM.fx _ (List.mem_of_getElem? (i := 5) rfl) (Or.inr (by rw [hD.len]; simp))
   simp only [] at ga2
   have g20 := hM.fx _ (List.mem_of_getElem? (i := 0) rfl) (Or.inl (getD_true (hD.shut 21 _ (getD_true (hD.shut 22 _ (getD_true (hD.shut 23 _ (getD_true (hD.shut 26 _ (getD_true (hD.shut 27 _ (getD_true (hD.shut 29 _ (getD_true (hD.shut 30 _ (getD_true (hD.shut 34 _ (getD_true (hD.shut 35 _ (getD_true (hd9 ⟨35,.chain⟩ (by simp) rfl)) rfl ⟨34,.data⟩ (by simp) rfl)) rfl ⟨30,.data⟩ (by simp) rfl)) rfl ⟨29,.data⟩ (by simp) rfl)) rfl ⟨27,.data⟩ (by simp) rfl)) rfl ⟨26,.data⟩ (by simp) rfl)) rfl ⟨23,.data⟩ (by simp) rfl)) rfl ⟨22,.data⟩ (by simp) rfl)) rfl ⟨21,.data⟩ (by simp) rfl)) rfl ⟨20,.data⟩ (by simp) rfl)))
   simp only [] at g20
   have g32 := hM.fx _ (List.mem_of_getElem? (i := 1) rfl) (Or.inl (getD_true (hD.shut 33 _ (getD_true (hD.shut 34 _ (getD_true (hD.shut 35 _ (getD_true (hd9 ⟨35,.chain⟩ (by simp) rfl)) rfl ⟨34,.data⟩ (by simp) rfl)) rfl ⟨33,.data⟩ (by simp) rfl)) rfl ⟨32,.data⟩ (by simp) rfl)))
   simp only [] at g32
   have HD := hide hD
   clear hD hd9 hi9
   refine wpOp_step rfl (fun K hK => ?_)
   go_simp
   go_wp2_with fail
   refine (whole_any true 15 3 (by decide) _).mono ?_
   rintro en w9 ⟨⟨a9,n9,c9,rfl,h9⟩,hb9⟩
   refine hK _ _ ⟨p9.set 37 ⟨a9,n9,c9⟩,?_,rfl,((hM.kept hs9 hb9).pick ⟨a9,n9,c9⟩ ?_)⟩
   ·intro k9 hk9
    clear hM hK
    match k9,hk9 with
    | 0,_ => rfl
    | 1,_ => rfl
    | 2,_ => rfl
    | 3,_ => rfl
    | 4,_ => rfl
    | 5,_ => rfl
    | 6,_ => rfl
    | 7,_ => rfl
    | 8,_ => rfl
    | 9,_ => rfl
    | 10,_ => rfl
    | 11,_ => rfl
    | 12,_ => rfl
    | 13,_ => rfl
    | 14,_ => rfl
    | 15,_ => rfl
    | 16,_ => rfl
    | 17,_ => rfl
    | 18,_ => rfl
    | 19,_ => rfl
    | 20,_ => rfl
    | 21,_ => rfl
    | 22,_ => rfl
    | 23,_ => rfl
    | 24,_ => rfl
    | 25,_ => rfl
    | 26,_ => rfl
    | 27,_ => rfl
    | 28,_ => rfl
    | 29,_ => rfl
    | 30,_ => rfl
    | 31,_ => rfl
    | 32,_ => rfl
    | 33,_ => rfl
    | 34,_ => rfl
    | 35,_ => rfl
    | 36,_ => rfl
    | 37,hk9 => exact absurd (hl9.symm.trans hk9) (by simp)
    | 38,hk9 => exact absurd (hl9.symm.trans (getD_true ((unhide HD).shut 38 _ (hk9) rfl ⟨37,.data⟩ (by simp) rfl))) (by simp)
    | 39,hk9 => exact absurd (hl9.symm.trans (getD_true ((unhide HD).shut 38 _ (getD_true ((unhide HD).shut 39 _ (hk9) rfl ⟨38,.data⟩ (by simp) rfl)) rfl ⟨37,.data⟩ (by simp) rfl))) (by simp)
    | 40,hk9 => exact absurd (hl9.symm.trans (getD_true ((unhide HD).shut 38 _ (getD_true ((unhide HD).shut 40 _ (hk9) rfl ⟨38,.chain⟩ (by simp) rfl)) rfl ⟨37,.data⟩ (by simp) rfl))) (by simp)
    | 41,hk9 => exact absurd (hl9.symm.trans (getD_true ((unhide HD).shut 38 _ (getD_true ((unhide HD).shut 40 _ (getD_true ((unhide HD).shut 41 _ (hk9) rfl ⟨40,.guard⟩ (by simp) rfl)) rfl ⟨38,.chain⟩ (by simp) rfl)) rfl ⟨37,.data⟩ (by simp) rfl))) (by simp)
    | 42,hk9 => exact absurd (hl9.symm.trans (getD_true ((unhide HD).shut 38 _ (getD_true ((unhide HD).shut 40 _ (getD_true ((unhide HD).shut 42 _ (hk9) rfl ⟨40,.guard⟩ (by simp) rfl)) rfl ⟨38,.chain⟩ (by simp) rfl)) rfl ⟨37,.data⟩ (by simp) rfl))) (by simp)
    | 43,hk9 => exact absurd (hl9.symm.trans (getD_true ((unhide HD).shut 38 _ (getD_true ((unhide HD).shut 40 _ (getD_true ((unhide HD).shut 43 _ (hk9) rfl ⟨40,.data⟩ (by simp) rfl)) rfl ⟨38,.chain⟩ (by simp) rfl)) rfl ⟨37,.data⟩ (by simp) rfl))) (by simp)
    | 44,hk9 => exact absurd (hl9.symm.trans (getD_true ((unhide HD).shut 44 _ (hk9) rfl ⟨37,.phase⟩ (by simp) rfl))) (by simp)
    | k9 + 45,_ => rfl
   ·intro x hx he; simp only [List.mem_cons,List.not_mem_nil,or_false] at hx; rcases hx with rfl | rfl | rfl | rfl | rfl | rfl
    ·exact absurd he (by simp)
    ·exact absurd he (by simp)
    ·exact h9.mono hM.bw
    ·exact absurd he (by simp)
    ·exact absurd he (by simp)
    ·exact absurd he (by simp)
  ·cases ho9
   have r77 := hD.on 35 77 _ rfl (getD_true (hd9 ⟨35,.guard⟩ (by simp) rfl))
   have r78 := hD.on 36 78 _ rfl (getD_true (hd9 ⟨36,.data⟩ (by simp) rfl))
   have r79 := hD.on 37 79 _ rfl (getD_true (hd9 ⟨37,.data⟩ (by simp) rfl))
   have ga0 := hM.fx _ (List.mem_of_getElem? (i := 3) rfl) (Or.inr (by rw [hD.len]; simp))
   simp only [] at ga0
   have ga1 := hM.fx _ (List.mem_of_getElem? (i := 4) rfl) (Or.inr (by rw [hD.len]; simp))
   simp only [] at ga1
   have ga2 := hM.fx _ (List.mem_of_getElem? (i := 5) rfl) (Or.inr (by rw [hD.len]; simp))
   simp only [] at ga2
   have g20 := hM.fx _ (List.mem_of_getElem? (i := 0) rfl) (Or.inl (getD_true (hD.shut 21 _ (getD_true (hD.shut 22 _ (getD_true (hD.shut 23 _ (getD_true (hD.shut 26 _ (getD_true (hD.shut 27 _ (getD_true (hD.shut 29 _ (getD_true (hD.shut 30 _ (getD_true (hD.shut 34 _ (getD_true (hD.shut 35 _ (getD_true (hD.shut 36 _ (getD_true (hd9 ⟨36,.data⟩ (by simp) rfl)) rfl ⟨35,.guard⟩ (by simp) rfl)) rfl ⟨34,.data⟩ (by simp) rfl)) rfl ⟨30,.data⟩ (by simp) rfl)) rfl ⟨29,.data⟩ (by simp) rfl)) rfl ⟨27,.data⟩ (by simp) rfl)) rfl ⟨26,.data⟩ (by simp) rfl)) rfl ⟨23,.data⟩ (by simp) rfl)) rfl ⟨22,.data⟩ (by simp) rfl)) rfl ⟨21,.data⟩ (by simp) rfl)) rfl ⟨20,.data⟩ (by simp) rfl)))
   simp only [] at g20
   have g32 := hM.fx _ (List.mem_of_getElem? (i := 1) rfl) (Or.inl (getD_true (hD.shut 33 _ (getD_true (hD.shut 34 _ (getD_true (hD.shut 35 _ (getD_true (hD.shut 36 _ (getD_true (hd9 ⟨36,.data⟩ (by simp) rfl)) rfl ⟨35,.guard⟩ (by simp) rfl)) rfl ⟨34,.data⟩ (by simp) rfl)) rfl ⟨33,.data⟩ (by simp) rfl)) rfl ⟨32,.data⟩ (by simp) rfl)))
   simp only [] at g32
   have g37 := hM.fx _ (List.mem_of_getElem? (i := 2) rfl) (Or.inl (getD_true (hd9 ⟨37,.data⟩ (by simp) rfl)))
   simp only [] at g37
   clear hD hd9 hi9
   refine wpOp_step rfl (fun K hK => ?_)
   go_simp
   go_wp2_with fail
   refine (dsame_any true A8 N8 C8 15 (p9 37).A (p9 37).N (p9 37).C 3 _ ga2.num g37.num).mono ?_
   rintro en w9 ⟨rfl,hb9⟩
   exact hK _ _ ⟨p9,fun _ _ => rfl,rfl,((hM.kept hs9 hb9).val rfl)⟩
  ·cases ho9
   have r77 := hD.on 35 77 _ rfl (getD_true (hd9 ⟨35,.data⟩ (by simp) rfl))
   have r80 := hD.on 38 80 _ rfl (getD_true (hd9 ⟨38,.data⟩ (by simp) rfl))
   clear hD hd9 hi9
   refine wpOp_step rfl (fun K hK => ?_)
   go_simp
   exact hK _ _ ⟨p9,fun _ _ => rfl,rfl,(hM.val rfl)⟩
  ·cases ho9
   have r81 := hD.on 39 81 _ rfl (getD_true (hd9 ⟨39,.data⟩ (by simp) rfl))
   clear hD hd9 hi9
   refine wpOp_step rfl (fun K hK => ?_)
   go_simp
   exact hK _ _ ⟨p9,fun _ _ => rfl,rfl,(hM.val rfl)⟩
  ·cases ho9
   have r82 := hD.on 40 82 _ rfl (getD_true (hd9 ⟨40,.guard⟩ (by simp) rfl))
   have r10 := hD.old 10 _ rfl rfl
   clear hD hd9 hi9
   refine wpOp_step rfl (fun K hK => ?_)
   go_simp
   exact hK _ _ ⟨p9,fun _ _ => rfl,rfl,(hM.val rfl)⟩
  ·cases ho9
   have r82 := hD.on 40 82 _ rfl (getD_true (hd9 ⟨40,.guard⟩ (by simp) rfl))
   have r83 := hD.on 41 83 _ rfl (getD_true (hd9 ⟨41,.data⟩ (by simp) rfl))
   clear hD hd9 hi9
   refine wpOp_step rfl (fun K hK => ?_)
   go_simp
   exact hK _ _ ⟨p9,fun _ _ => rfl,act_eq (by rfl),(hM.val rfl)⟩
  ·cases ho9
   have r82 := hD.on 40 82 _ rfl (getD_true (hd9 ⟨40,.data⟩ (by simp) rfl))
   have r84 := hD.on 42 84 _ rfl (getD_true (hd9 ⟨42,.data⟩ (by simp) rfl))
   clear hD hd9 hi9
   refine wpOp_step rfl (fun K hK => ?_)
   go_simp
   exact hK _ _ ⟨p9,fun _ _ => rfl,rfl,(hM.val rfl)⟩
  ·cases ho9
   have r85 := hD.on 43 85 _ rfl (getD_true (hd9 ⟨43,.data⟩ (by simp) rfl))
   clear hD hd9 hi9
   refine wpOp_step rfl (fun K hK => ?_)
   go_simp
   exact hK _ _ ⟨p9,fun _ _ => rfl,rfl,(hM.val rfl)⟩
 ·intro p9 l9 W9 hn9 hl9 hM
  have fr6_20 := hM.fx _ (List.mem_of_getElem? (i := 0) rfl) (Or.inl (hl9 20 (by decide)))
  have fr6_32 := hM.fx _ (List.mem_of_getElem? (i := 1) rfl) (Or.inl (hl9 32 (by decide)))
  have fr6_37 := hM.fx _ (List.mem_of_getElem? (i := 2) rfl) (Or.inl (hl9 37 (by decide)))
  have kr6_0 := hM.fx _ (List.mem_of_getElem? (i := 3) rfl) (Or.inr (by rw [hn9]; simp))
  simp only [] at kr6_0
  have kr6_1 := hM.fx _ (List.mem_of_getElem? (i := 4) rfl) (Or.inr (by rw [hn9]; simp))
  simp only [] at kr6_1
  have kr6_2 := hM.fx _ (List.mem_of_getElem? (i := 5) rfl) (Or.inr (by rw [hn9]; simp))
  simp only [] at kr6_2
  replace hM := hM.st
  clear hl9 hs9 h09 hn9
  generalize p9 20 = q20 at *
  obtain ⟨Ar6_20,Nr6_20,Cr6_20⟩ := q20
  simp only [] at fr6_20
  generalize p9 32 = q32 at *
  obtain ⟨Ar6_32,Nr6_32,Cr6_32⟩ := q32
  simp only [] at fr6_32
  generalize p9 37 = q37 at *
  obtain ⟨Ar6_37,Nr6_37,Cr6_37⟩ := q37
  simp only [] at fr6_37
  clear hS z14_0_0 z14_0_1 z14_0_2 z14_1_0 z14_1_1 z14_1_2 z14_2_0 z14_2_1 z14_2_2
  have hS := hM
  clear hM
  simp only [Puts.lay,List.setIfInBounds_toArray,List.set_cons_zero,List.set_cons_succ]
  obtain ⟨⟨z15_0_0,z15_0_1,z15_0_2,-⟩,⟨z15_1_0,z15_1_1,z15_1_2,-⟩,⟨z15_2_0,z15_2_1,z15_2_2,-⟩,-⟩ := hS.cells
  go_wp2
  go_ret
  exact ⟨rfl,hS.fr⟩
end Go.Proofs.YtecmcjlgknfnlaaDoor
namespace Go.Proofs.YtecmcjlgknfnlaaDoor
open Go.RowKit
set_option maxRecDepth 20000 in
set_option maxHeartbeats 4000000 in
theorem over_0A (s : Bool) (a : Option Addr) (n cap : Nat) (x : Int) (s' : Bool) (a' : Option Addr) (n' cap' : Nat) (x' : Int) (s2 : Bool) (a2 : Option Addr) (n2 cap2 : Nat) (x2 : Int) (c : Int) (w : World) (hT : Tb w)  (hc0 : Hid (∀ W : World,Below w.heap.size w W → Calls Tryd.prog 29 #[.agg #[.bool s,.slice a n cap,.int .i64 x]] W fun e w' => e = .returned (.int .i64 c) ∧ Below W.heap.size W w')) (hcc : (c != 0) = true) :
  Calls Tryd.prog 7 #[.agg #[.bool s,.slice a n cap,.int .i64 x],.agg #[.bool s',.slice a' n' cap',.int .i64 x'],.agg #[.bool s2,.slice a2 n2 cap2,.int .i64 x2]] w fun e w' => e = .returned (.bool true) ∧ Below w.heap.size w w' := by
 have HT := hide hT
 clear hT
 go_enter Tryd.func7,Tryd.ntmps7
 go_wp2_with fail
 refine (alive_any _ ((((unhide HT).alloc _).alloc _).alloc _)).mono ?_
 rintro e w1 ⟨rfl,hb1⟩
 have hS := (Fs.three w _ _ _ _ _ _).kept hb1
 obtain ⟨⟨z1_0_0,z1_0_1,z1_0_2,-⟩,⟨z1_1_0,z1_1_1,z1_1_2,-⟩,⟨z1_2_0,z1_2_1,z1_2_2,-⟩,-⟩ := hS.cells
 go_wp2_with fail
 have hltw1_0 : w.heap.size < w1.heap.size := block_lt (hS.bx ⟨w.heap.size,#[.bool s,.slice a n cap,.int .i64 x],26⟩ (by simp))
 have hltw1_1 : w.heap.size + 1 < w1.heap.size := block_lt (hS.bx ⟨w.heap.size + 1,#[.bool s',.slice a' n' cap',.int .i64 x'],26⟩ (by simp))
 have hltw1_2 : w.heap.size + 2 < w1.heap.size := block_lt (hS.bx ⟨w.heap.size + 2,#[.bool s2,.slice a2 n2 cap2,.int .i64 x2],26⟩ (by simp))
 replace hS := hS.alloc #[.bool s,.slice a n cap,.int .i64 x,.bool s',.slice a' n' cap',.int .i64 x',.bool s2,.slice a2 n2 cap2,.int .i64 x2] 26
 refine wp_loop_rounds 4 ?_
 rw [rounds_succ]
 go_wp2_with fail
 refine (unhide hc0 _ hS.fr).mono ?_
 rintro e w2 ⟨rfl,hb2⟩
 replace hS := hS.kept hb2
 clear z1_0_0 z1_0_1 z1_0_2 z1_1_0 z1_1_1 z1_1_2 z1_2_0 z1_2_1 z1_2_2
 obtain ⟨⟨z2_0_0,z2_0_1,z2_0_2,z2_0_3,z2_0_4,z2_0_5,z2_0_6,z2_0_7,z2_0_8,-⟩,⟨z2_1_0,z2_1_1,z2_1_2,-⟩,⟨z2_2_0,z2_2_1,z2_2_2,-⟩,⟨z2_3_0,z2_3_1,z2_3_2,-⟩,-⟩ := hS.cells
 go_wp2
 go_ret
 exact ⟨rfl,hS.fr⟩
set_option maxRecDepth 20000 in
set_option maxHeartbeats 4000000 in
theorem over_0B (s : Bool) (a : Option Addr) (n cap : Nat) (x : Int) (s' : Bool) (a' : Option Addr) (n' cap' : Nat) (x' : Int) (s2 : Bool) (a2 : Option Addr) (n2 cap2 : Nat) (x2 : Int) (w : World) (hT : Tb w)  (hc0 : Hid (∀ W : World,Below w.heap.size w W → Calls Tryd.prog 29 #[.agg #[.bool s,.slice a n cap,.int .i64 x]] W fun e w' => e = .returned (.int .i64 0) ∧ Below W.heap.size W w')) (hn9 : (200 : Int) < (n : Int)) :
  Calls Tryd.prog 7 #[.agg #[.bool s,.slice a n cap,.int .i64 x],.agg #[.bool s',.slice a' n' cap',.int .i64 x'],.agg #[.bool s2,.slice a2 n2 cap2,.int .i64 x2]] w fun e w' => e = .returned (.bool true) ∧ Below w.heap.size w w' := by
 have HT := hide hT
 clear hT
 go_enter Tryd.func7,Tryd.ntmps7
 go_wp2_with fail
 refine (alive_any _ ((((unhide HT).alloc _).alloc _).alloc _)).mono ?_
 rintro e w1 ⟨rfl,hb1⟩
 have hS := (Fs.three w _ _ _ _ _ _).kept hb1
 obtain ⟨⟨z1_0_0,z1_0_1,z1_0_2,-⟩,⟨z1_1_0,z1_1_1,z1_1_2,-⟩,⟨z1_2_0,z1_2_1,z1_2_2,-⟩,-⟩ := hS.cells
 go_wp2_with fail
 have hltw1_0 : w.heap.size < w1.heap.size := block_lt (hS.bx ⟨w.heap.size,#[.bool s,.slice a n cap,.int .i64 x],26⟩ (by simp))
 have hltw1_1 : w.heap.size + 1 < w1.heap.size := block_lt (hS.bx ⟨w.heap.size + 1,#[.bool s',.slice a' n' cap',.int .i64 x'],26⟩ (by simp))
 have hltw1_2 : w.heap.size + 2 < w1.heap.size := block_lt (hS.bx ⟨w.heap.size + 2,#[.bool s2,.slice a2 n2 cap2,.int .i64 x2],26⟩ (by simp))
 replace hS := hS.alloc #[.bool s,.slice a n cap,.int .i64 x,.bool s',.slice a' n' cap',.int .i64 x',.bool s2,.slice a2 n2 cap2,.int .i64 x2] 26
 refine wp_loop_rounds 4 ?_
 rw [rounds_succ]
 go_wp2_with fail
 refine (unhide hc0 _ hS.fr).mono ?_
 rintro e w2 ⟨rfl,hb2⟩
 replace hS := hS.kept hb2
 clear z1_0_0 z1_0_1 z1_0_2 z1_1_0 z1_1_1 z1_1_2 z1_2_0 z1_2_1 z1_2_2
 obtain ⟨⟨z2_0_0,z2_0_1,z2_0_2,z2_0_3,z2_0_4,z2_0_5,z2_0_6,z2_0_7,z2_0_8,-⟩,⟨z2_1_0,z2_1_1,z2_1_2,-⟩,⟨z2_2_0,z2_2_1,z2_2_2,-⟩,⟨z2_3_0,z2_3_1,z2_3_2,-⟩,-⟩ := hS.cells
 go_wp2
 go_ret
 exact ⟨rfl,hS.fr⟩
set_option maxRecDepth 20000 in
set_option maxHeartbeats 4000000 in
theorem over_0C (s : Bool) (a : Option Addr) (n cap : Nat) (x : Int) (s' : Bool) (a' : Option Addr) (n' cap' : Nat) (x' : Int) (s2 : Bool) (a2 : Option Addr) (n2 cap2 : Nat) (x2 : Int) (w : World) (hT : Tb w)  (hc0 : Hid (∀ W : World,Below w.heap.size w W → Calls Tryd.prog 29 #[.agg #[.bool s,.slice a n cap,.int .i64 x]] W fun e w' => e = .returned (.int .i64 0) ∧ Below W.heap.size W w')) (hn9 : (n : Int) ≤ 200) (hx9 : 3000 < x) :
  Calls Tryd.prog 7 #[.agg #[.bool s,.slice a n cap,.int .i64 x],.agg #[.bool s',.slice a' n' cap',.int .i64 x'],.agg #[.bool s2,.slice a2 n2 cap2,.int .i64 x2]] w fun e w' => e = .returned (.bool true) ∧ Below w.heap.size w w' := by
 have HT := hide hT
 clear hT
 go_enter Tryd.func7,Tryd.ntmps7
 go_wp2_with fail
 refine (alive_any _ ((((unhide HT).alloc _).alloc _).alloc _)).mono ?_
 rintro e w1 ⟨rfl,hb1⟩
 have hS := (Fs.three w _ _ _ _ _ _).kept hb1
 obtain ⟨⟨z1_0_0,z1_0_1,z1_0_2,-⟩,⟨z1_1_0,z1_1_1,z1_1_2,-⟩,⟨z1_2_0,z1_2_1,z1_2_2,-⟩,-⟩ := hS.cells
 go_wp2_with fail
 have hltw1_0 : w.heap.size < w1.heap.size := block_lt (hS.bx ⟨w.heap.size,#[.bool s,.slice a n cap,.int .i64 x],26⟩ (by simp))
 have hltw1_1 : w.heap.size + 1 < w1.heap.size := block_lt (hS.bx ⟨w.heap.size + 1,#[.bool s',.slice a' n' cap',.int .i64 x'],26⟩ (by simp))
 have hltw1_2 : w.heap.size + 2 < w1.heap.size := block_lt (hS.bx ⟨w.heap.size + 2,#[.bool s2,.slice a2 n2 cap2,.int .i64 x2],26⟩ (by simp))
 replace hS := hS.alloc #[.bool s,.slice a n cap,.int .i64 x,.bool s',.slice a' n' cap',.int .i64 x',.bool s2,.slice a2 n2 cap2,.int .i64 x2] 26
 refine wp_loop_rounds 4 ?_
 rw [rounds_succ]
 go_wp2_with fail
 refine (unhide hc0 _ hS.fr).mono ?_
 rintro e w2 ⟨rfl,hb2⟩
 replace hS := hS.kept hb2
 clear z1_0_0 z1_0_1 z1_0_2 z1_1_0 z1_1_1 z1_1_2 z1_2_0 z1_2_1 z1_2_2
 obtain ⟨⟨z2_0_0,z2_0_1,z2_0_2,z2_0_3,z2_0_4,z2_0_5,z2_0_6,z2_0_7,z2_0_8,-⟩,⟨z2_1_0,z2_1_1,z2_1_2,-⟩,⟨z2_2_0,z2_2_1,z2_2_2,-⟩,⟨z2_3_0,z2_3_1,z2_3_2,-⟩,-⟩ := hS.cells
 go_wp2
 go_ret
 exact ⟨rfl,hS.fr⟩
set_option maxRecDepth 20000 in
set_option maxHeartbeats 4000000 in
theorem over_0D (s : Bool) (a : Option Addr) (n cap : Nat) (x : Int) (s' : Bool) (a' : Option Addr) (n' cap' : Nat) (x' : Int) (s2 : Bool) (a2 : Option Addr) (n2 cap2 : Nat) (x2 : Int) (w : World) (hT : Tb w)  (hc0 : Hid (∀ W : World,Below w.heap.size w W → Calls Tryd.prog 29 #[.agg #[.bool s,.slice a n cap,.int .i64 x]] W fun e w' => e = .returned (.int .i64 0) ∧ Below W.heap.size W w')) (hn9 : (n : Int) ≤ 200) (hx9 : x ≤ 3000) (hy9 : x < -3000) :
  Calls Tryd.prog 7 #[.agg #[.bool s,.slice a n cap,.int .i64 x],.agg #[.bool s',.slice a' n' cap',.int .i64 x'],.agg #[.bool s2,.slice a2 n2 cap2,.int .i64 x2]] w fun e w' => e = .returned (.bool true) ∧ Below w.heap.size w w' := by
 have HT := hide hT
 clear hT
 go_enter Tryd.func7,Tryd.ntmps7
 go_wp2_with fail
 refine (alive_any _ ((((unhide HT).alloc _).alloc _).alloc _)).mono ?_
 rintro e w1 ⟨rfl,hb1⟩
 have hS := (Fs.three w _ _ _ _ _ _).kept hb1
 obtain ⟨⟨z1_0_0,z1_0_1,z1_0_2,-⟩,⟨z1_1_0,z1_1_1,z1_1_2,-⟩,⟨z1_2_0,z1_2_1,z1_2_2,-⟩,-⟩ := hS.cells
 go_wp2_with fail
 have hltw1_0 : w.heap.size < w1.heap.size := block_lt (hS.bx ⟨w.heap.size,#[.bool s,.slice a n cap,.int .i64 x],26⟩ (by simp))
 have hltw1_1 : w.heap.size + 1 < w1.heap.size := block_lt (hS.bx ⟨w.heap.size + 1,#[.bool s',.slice a' n' cap',.int .i64 x'],26⟩ (by simp))
 have hltw1_2 : w.heap.size + 2 < w1.heap.size := block_lt (hS.bx ⟨w.heap.size + 2,#[.bool s2,.slice a2 n2 cap2,.int .i64 x2],26⟩ (by simp))
 replace hS := hS.alloc #[.bool s,.slice a n cap,.int .i64 x,.bool s',.slice a' n' cap',.int .i64 x',.bool s2,.slice a2 n2 cap2,.int .i64 x2] 26
 refine wp_loop_rounds 4 ?_
 rw [rounds_succ]
 go_wp2_with fail
 refine (unhide hc0 _ hS.fr).mono ?_
 rintro e w2 ⟨rfl,hb2⟩
 replace hS := hS.kept hb2
 clear z1_0_0 z1_0_1 z1_0_2 z1_1_0 z1_1_1 z1_1_2 z1_2_0 z1_2_1 z1_2_2
 obtain ⟨⟨z2_0_0,z2_0_1,z2_0_2,z2_0_3,z2_0_4,z2_0_5,z2_0_6,z2_0_7,z2_0_8,-⟩,⟨z2_1_0,z2_1_1,z2_1_2,-⟩,⟨z2_2_0,z2_2_1,z2_2_2,-⟩,⟨z2_3_0,z2_3_1,z2_3_2,-⟩,-⟩ := hS.cells
 go_wp2
 go_ret
 exact ⟨rfl,hS.fr⟩
set_option maxRecDepth 20000 in
set_option maxHeartbeats 4000000 in
theorem over_1A (s : Bool) (a : Option Addr) (n cap : Nat) (x : Int) (s' : Bool) (a' : Option Addr) (n' cap' : Nat) (x' : Int) (s2 : Bool) (a2 : Option Addr) (n2 cap2 : Nat) (x2 : Int) (c : Int) (w : World) (hT : Tb w) (hc0 : Hid (∀ W : World,Below w.heap.size w W → Calls Tryd.prog 29 #[.agg #[.bool s,.slice a n cap,.int .i64 x]] W fun e w' => e = .returned (.int .i64 0) ∧ Below W.heap.size W w')) (ha0 : (n : Int) ≤ 200) (hb0_ : x ≤ 3000) (hd0 : -3000 ≤ x) (hc1 : Hid (∀ W : World,Below w.heap.size w W → Calls Tryd.prog 29 #[.agg #[.bool s',.slice a' n' cap',.int .i64 x']] W fun e w' => e = .returned (.int .i64 c) ∧ Below W.heap.size W w')) (hcc : (c != 0) = true) :
  Calls Tryd.prog 7 #[.agg #[.bool s,.slice a n cap,.int .i64 x],.agg #[.bool s',.slice a' n' cap',.int .i64 x'],.agg #[.bool s2,.slice a2 n2 cap2,.int .i64 x2]] w fun e w' => e = .returned (.bool true) ∧ Below w.heap.size w w' := by
 have HT := hide hT
 clear hT
 go_enter Tryd.func7,Tryd.ntmps7
 go_wp2_with fail
 refine (alive_any _ ((((unhide HT).alloc _).alloc _).alloc _)).mono ?_
 rintro e w1 ⟨rfl,hb1⟩
 have hS := (Fs.three w _ _ _ _ _ _).kept hb1
 obtain ⟨⟨z1_0_0,z1_0_1,z1_0_2,-⟩,⟨z1_1_0,z1_1_1,z1_1_2,-⟩,⟨z1_2_0,z1_2_1,z1_2_2,-⟩,-⟩ := hS.cells
 go_wp2_with fail
 have hltw1_0 : w.heap.size < w1.heap.size := block_lt (hS.bx ⟨w.heap.size,#[.bool s,.slice a n cap,.int .i64 x],26⟩ (by simp))
 have hltw1_1 : w.heap.size + 1 < w1.heap.size := block_lt (hS.bx ⟨w.heap.size + 1,#[.bool s',.slice a' n' cap',.int .i64 x'],26⟩ (by simp))
 have hltw1_2 : w.heap.size + 2 < w1.heap.size := block_lt (hS.bx ⟨w.heap.size + 2,#[.bool s2,.slice a2 n2 cap2,.int .i64 x2],26⟩ (by simp))
 replace hS := hS.alloc #[.bool s,.slice a n cap,.int .i64 x,.bool s',.slice a' n' cap',.int .i64 x',.bool s2,.slice a2 n2 cap2,.int .i64 x2] 26
 refine wp_loop_rounds 4 ?_
 rw [rounds_succ]
 go_wp2_with fail
 refine (unhide hc0 _ hS.fr).mono ?_
 rintro e w2 ⟨rfl,hb2⟩
 replace hS := hS.kept hb2
 clear z1_0_0 z1_0_1 z1_0_2 z1_1_0 z1_1_1 z1_1_2 z1_2_0 z1_2_1 z1_2_2
 obtain ⟨⟨z2_0_0,z2_0_1,z2_0_2,z2_0_3,z2_0_4,z2_0_5,z2_0_6,z2_0_7,z2_0_8,-⟩,⟨z2_1_0,z2_1_1,z2_1_2,-⟩,⟨z2_2_0,z2_2_1,z2_2_2,-⟩,⟨z2_3_0,z2_3_1,z2_3_2,-⟩,-⟩ := hS.cells
 go_wp2_with fail
 rw [rounds_succ]
 go_wp2_with fail
 refine (unhide hc1 _ hS.fr).mono ?_
 rintro e w3 ⟨rfl,hb3⟩
 replace hS := hS.kept hb3
 clear z2_0_0 z2_0_1 z2_0_2 z2_0_3 z2_0_4 z2_0_5 z2_0_6 z2_0_7 z2_0_8 z2_1_0 z2_1_1 z2_1_2 z2_2_0 z2_2_1 z2_2_2 z2_3_0 z2_3_1 z2_3_2
 obtain ⟨⟨z3_0_0,z3_0_1,z3_0_2,z3_0_3,z3_0_4,z3_0_5,z3_0_6,z3_0_7,z3_0_8,-⟩,⟨z3_1_0,z3_1_1,z3_1_2,-⟩,⟨z3_2_0,z3_2_1,z3_2_2,-⟩,⟨z3_3_0,z3_3_1,z3_3_2,-⟩,-⟩ := hS.cells
 go_wp2
 go_ret
 exact ⟨rfl,hS.fr⟩
set_option maxRecDepth 20000 in
set_option maxHeartbeats 4000000 in
theorem over_1B (s : Bool) (a : Option Addr) (n cap : Nat) (x : Int) (s' : Bool) (a' : Option Addr) (n' cap' : Nat) (x' : Int) (s2 : Bool) (a2 : Option Addr) (n2 cap2 : Nat) (x2 : Int) (w : World) (hT : Tb w) (hc0 : Hid (∀ W : World,Below w.heap.size w W → Calls Tryd.prog 29 #[.agg #[.bool s,.slice a n cap,.int .i64 x]] W fun e w' => e = .returned (.int .i64 0) ∧ Below W.heap.size W w')) (ha0 : (n : Int) ≤ 200) (hb0_ : x ≤ 3000) (hd0 : -3000 ≤ x) (hc1 : Hid (∀ W : World,Below w.heap.size w W → Calls Tryd.prog 29 #[.agg #[.bool s',.slice a' n' cap',.int .i64 x']] W fun e w' => e = .returned (.int .i64 0) ∧ Below W.heap.size W w')) (hn9 : (200 : Int) < (n' : Int)) :
  Calls Tryd.prog 7 #[.agg #[.bool s,.slice a n cap,.int .i64 x],.agg #[.bool s',.slice a' n' cap',.int .i64 x'],.agg #[.bool s2,.slice a2 n2 cap2,.int .i64 x2]] w fun e w' => e = .returned (.bool true) ∧ Below w.heap.size w w' := by
 have HT := hide hT
 clear hT
 go_enter Tryd.func7,Tryd.ntmps7
 go_wp2_with fail
 refine (alive_any _ ((((unhide HT).alloc _).alloc _).alloc _)).mono ?_
 rintro e w1 ⟨rfl,hb1⟩
 have hS := (Fs.three w _ _ _ _ _ _).kept hb1
 obtain ⟨⟨z1_0_0,z1_0_1,z1_0_2,-⟩,⟨z1_1_0,z1_1_1,z1_1_2,-⟩,⟨z1_2_0,z1_2_1,z1_2_2,-⟩,-⟩ := hS.cells
 go_wp2_with fail
 have hltw1_0 : w.heap.size < w1.heap.size := block_lt (hS.bx ⟨w.heap.size,#[.bool s,.slice a n cap,.int .i64 x],26⟩ (by simp))
 have hltw1_1 : w.heap.size + 1 < w1.heap.size := block_lt (hS.bx ⟨w.heap.size + 1,#[.bool s',.slice a' n' cap',.int .i64 x'],26⟩ (by simp))
 have hltw1_2 : w.heap.size + 2 < w1.heap.size := block_lt (hS.bx ⟨w.heap.size + 2,#[.bool s2,.slice a2 n2 cap2,.int .i64 x2],26⟩ (by simp))
 replace hS := hS.alloc #[.bool s,.slice a n cap,.int .i64 x,.bool s',.slice a' n' cap',.int .i64 x',.bool s2,.slice a2 n2 cap2,.int .i64 x2] 26
 refine wp_loop_rounds 4 ?_
 rw [rounds_succ]
 go_wp2_with fail
 refine (unhide hc0 _ hS.fr).mono ?_
 rintro e w2 ⟨rfl,hb2⟩
 replace hS := hS.kept hb2
 clear z1_0_0 z1_0_1 z1_0_2 z1_1_0 z1_1_1 z1_1_2 z1_2_0 z1_2_1 z1_2_2
 obtain ⟨⟨z2_0_0,z2_0_1,z2_0_2,z2_0_3,z2_0_4,z2_0_5,z2_0_6,z2_0_7,z2_0_8,-⟩,⟨z2_1_0,z2_1_1,z2_1_2,-⟩,⟨z2_2_0,z2_2_1,z2_2_2,-⟩,⟨z2_3_0,z2_3_1,z2_3_2,-⟩,-⟩ := hS.cells
 go_wp2_with fail
 rw [rounds_succ]
 go_wp2_with fail
 refine (unhide hc1 _ hS.fr).mono ?_
 rintro e w3 ⟨rfl,hb3⟩
 replace hS := hS.kept hb3
 clear z2_0_0 z2_0_1 z2_0_2 z2_0_3 z2_0_4 z2_0_5 z2_0_6 z2_0_7 z2_0_8 z2_1_0 z2_1_1 z2_1_2 z2_2_0 z2_2_1 z2_2_2 z2_3_0 z2_3_1 z2_3_2
 obtain ⟨⟨z3_0_0,z3_0_1,z3_0_2,z3_0_3,z3_0_4,z3_0_5,z3_0_6,z3_0_7,z3_0_8,-⟩,⟨z3_1_0,z3_1_1,z3_1_2,-⟩,⟨z3_2_0,z3_2_1,z3_2_2,-⟩,⟨z3_3_0,z3_3_1,z3_3_2,-⟩,-⟩ := hS.cells
 go_wp2
 go_ret
 exact ⟨rfl,hS.fr⟩
set_option maxRecDepth 20000 in
set_option maxHeartbeats 4000000 in
theorem over_1C (s : Bool) (a : Option Addr) (n cap : Nat) (x : Int) (s' : Bool) (a' : Option Addr) (n' cap' : Nat) (x' : Int) (s2 : Bool) (a2 : Option Addr) (n2 cap2 : Nat) (x2 : Int) (w : World) (hT : Tb w) (hc0 : Hid (∀ W : World,Below w.heap.size w W → Calls Tryd.prog 29 #[.agg #[.bool s,.slice a n cap,.int .i64 x]] W fun e w' => e = .returned (.int .i64 0) ∧ Below W.heap.size W w')) (ha0 : (n : Int) ≤ 200) (hb0_ : x ≤ 3000) (hd0 : -3000 ≤ x) (hc1 : Hid (∀ W : World,Below w.heap.size w W → Calls Tryd.prog 29 #[.agg #[.bool s',.slice a' n' cap',.int .i64 x']] W fun e w' => e = .returned (.int .i64 0) ∧ Below W.heap.size W w')) (hn9 : (n' : Int) ≤ 200) (hx9 : 3000 < x') :
  Calls Tryd.prog 7 #[.agg #[.bool s,.slice a n cap,.int .i64 x],.agg #[.bool s',.slice a' n' cap',.int .i64 x'],.agg #[.bool s2,.slice a2 n2 cap2,.int .i64 x2]] w fun e w' => e = .returned (.bool true) ∧ Below w.heap.size w w' := by
 have HT := hide hT
 clear hT
 go_enter Tryd.func7,Tryd.ntmps7
 go_wp2_with fail
 refine (alive_any _ ((((unhide HT).alloc _).alloc _).alloc _)).mono ?_
 rintro e w1 ⟨rfl,hb1⟩
 have hS := (Fs.three w _ _ _ _ _ _).kept hb1
 obtain ⟨⟨z1_0_0,z1_0_1,z1_0_2,-⟩,⟨z1_1_0,z1_1_1,z1_1_2,-⟩,⟨z1_2_0,z1_2_1,z1_2_2,-⟩,-⟩ := hS.cells
 go_wp2_with fail
 have hltw1_0 : w.heap.size < w1.heap.size := block_lt (hS.bx ⟨w.heap.size,#[.bool s,.slice a n cap,.int .i64 x],26⟩ (by simp))
 have hltw1_1 : w.heap.size + 1 < w1.heap.size := block_lt (hS.bx ⟨w.heap.size + 1,#[.bool s',.slice a' n' cap',.int .i64 x'],26⟩ (by simp))
 have hltw1_2 : w.heap.size + 2 < w1.heap.size := block_lt (hS.bx ⟨w.heap.size + 2,#[.bool s2,.slice a2 n2 cap2,.int .i64 x2],26⟩ (by simp))
 replace hS := hS.alloc #[.bool s,.slice a n cap,.int .i64 x,.bool s',.slice a' n' cap',.int .i64 x',.bool s2,.slice a2 n2 cap2,.int .i64 x2] 26
 refine wp_loop_rounds 4 ?_
 rw [rounds_succ]
 go_wp2_with fail
 refine (unhide hc0 _ hS.fr).mono ?_
 rintro e w2 ⟨rfl,hb2⟩
 replace hS := hS.kept hb2
 clear z1_0_0 z1_0_1 z1_0_2 z1_1_0 z1_1_1 z1_1_2 z1_2_0 z1_2_1 z1_2_2
 obtain ⟨⟨z2_0_0,z2_0_1,z2_0_2,z2_0_3,z2_0_4,z2_0_5,z2_0_6,z2_0_7,z2_0_8,-⟩,⟨z2_1_0,z2_1_1,z2_1_2,-⟩,⟨z2_2_0,z2_2_1,z2_2_2,-⟩,⟨z2_3_0,z2_3_1,z2_3_2,-⟩,-⟩ := hS.cells
 go_wp2_with fail
 rw [rounds_succ]
 go_wp2_with fail
 refine (unhide hc1 _ hS.fr).mono ?_
 rintro e w3 ⟨rfl,hb3⟩
 replace hS := hS.kept hb3
 clear z2_0_0 z2_0_1 z2_0_2 z2_0_3 z2_0_4 z2_0_5 z2_0_6 z2_0_7 z2_0_8 z2_1_0 z2_1_1 z2_1_2 z2_2_0 z2_2_1 z2_2_2 z2_3_0 z2_3_1 z2_3_2
 obtain ⟨⟨z3_0_0,z3_0_1,z3_0_2,z3_0_3,z3_0_4,z3_0_5,z3_0_6,z3_0_7,z3_0_8,-⟩,⟨z3_1_0,z3_1_1,z3_1_2,-⟩,⟨z3_2_0,z3_2_1,z3_2_2,-⟩,⟨z3_3_0,z3_3_1,z3_3_2,-⟩,-⟩ := hS.cells
 go_wp2
 go_ret
 exact ⟨rfl,hS.fr⟩
set_option maxRecDepth 20000 in
set_option maxHeartbeats 4000000 in
theorem over_1D (s : Bool) (a : Option Addr) (n cap : Nat) (x : Int) (s' : Bool) (a' : Option Addr) (n' cap' : Nat) (x' : Int) (s2 : Bool) (a2 : Option Addr) (n2 cap2 : Nat) (x2 : Int) (w : World) (hT : Tb w) (hc0 : Hid (∀ W : World,Below w.heap.size w W → Calls Tryd.prog 29 #[.agg #[.bool s,.slice a n cap,.int .i64 x]] W fun e w' => e = .returned (.int .i64 0) ∧ Below W.heap.size W w')) (ha0 : (n : Int) ≤ 200) (hb0_ : x ≤ 3000) (hd0 : -3000 ≤ x) (hc1 : Hid (∀ W : World,Below w.heap.size w W → Calls Tryd.prog 29 #[.agg #[.bool s',.slice a' n' cap',.int .i64 x']] W fun e w' => e = .returned (.int .i64 0) ∧ Below W.heap.size W w')) (hn9 : (n' : Int) ≤ 200) (hx9 : x' ≤ 3000) (hy9 : x' < -3000) :
  Calls Tryd.prog 7 #[.agg #[.bool s,.slice a n cap,.int .i64 x],.agg #[.bool s',.slice a' n' cap',.int .i64 x'],.agg #[.bool s2,.slice a2 n2 cap2,.int .i64 x2]] w fun e w' => e = .returned (.bool true) ∧ Below w.heap.size w w' := by
 have HT := hide hT
 clear hT
 go_enter Tryd.func7,Tryd.ntmps7
 go_wp2_with fail
 refine (alive_any _ ((((unhide HT).alloc _).alloc _).alloc _)).mono ?_
 rintro e w1 ⟨rfl,hb1⟩
 have hS := (Fs.three w _ _ _ _ _ _).kept hb1
 obtain ⟨⟨z1_0_0,z1_0_1,z1_0_2,-⟩,⟨z1_1_0,z1_1_1,z1_1_2,-⟩,⟨z1_2_0,z1_2_1,z1_2_2,-⟩,-⟩ := hS.cells
 go_wp2_with fail
 have hltw1_0 : w.heap.size < w1.heap.size := block_lt (hS.bx ⟨w.heap.size,#[.bool s,.slice a n cap,.int .i64 x],26⟩ (by simp))
 have hltw1_1 : w.heap.size + 1 < w1.heap.size := block_lt (hS.bx ⟨w.heap.size + 1,#[.bool s',.slice a' n' cap',.int .i64 x'],26⟩ (by simp))
 have hltw1_2 : w.heap.size + 2 < w1.heap.size := block_lt (hS.bx ⟨w.heap.size + 2,#[.bool s2,.slice a2 n2 cap2,.int .i64 x2],26⟩ (by simp))
 replace hS := hS.alloc #[.bool s,.slice a n cap,.int .i64 x,.bool s',.slice a' n' cap',.int .i64 x',.bool s2,.slice a2 n2 cap2,.int .i64 x2] 26
 refine wp_loop_rounds 4 ?_
 rw [rounds_succ]
 go_wp2_with fail
 refine (unhide hc0 _ hS.fr).mono ?_
 rintro e w2 ⟨rfl,hb2⟩
 replace hS := hS.kept hb2
 clear z1_0_0 z1_0_1 z1_0_2 z1_1_0 z1_1_1 z1_1_2 z1_2_0 z1_2_1 z1_2_2
 obtain ⟨⟨z2_0_0,z2_0_1,z2_0_2,z2_0_3,z2_0_4,z2_0_5,z2_0_6,z2_0_7,z2_0_8,-⟩,⟨z2_1_0,z2_1_1,z2_1_2,-⟩,⟨z2_2_0,z2_2_1,z2_2_2,-⟩,⟨z2_3_0,z2_3_1,z2_3_2,-⟩,-⟩ := hS.cells
 go_wp2_with fail
 rw [rounds_succ]
 go_wp2_with fail
 refine (unhide hc1 _ hS.fr).mono ?_
 rintro e w3 ⟨rfl,hb3⟩
 replace hS := hS.kept hb3
 clear z2_0_0 z2_0_1 z2_0_2 z2_0_3 z2_0_4 z2_0_5 z2_0_6 z2_0_7 z2_0_8 z2_1_0 z2_1_1 z2_1_2 z2_2_0 z2_2_1 z2_2_2 z2_3_0 z2_3_1 z2_3_2
 obtain ⟨⟨z3_0_0,z3_0_1,z3_0_2,z3_0_3,z3_0_4,z3_0_5,z3_0_6,z3_0_7,z3_0_8,-⟩,⟨z3_1_0,z3_1_1,z3_1_2,-⟩,⟨z3_2_0,z3_2_1,z3_2_2,-⟩,⟨z3_3_0,z3_3_1,z3_3_2,-⟩,-⟩ := hS.cells
 go_wp2
 go_ret
 exact ⟨rfl,hS.fr⟩
set_option maxRecDepth 20000 in
set_option maxHeartbeats 4000000 in
theorem over_2A (s : Bool) (a : Option Addr) (n cap : Nat) (x : Int) (s' : Bool) (a' : Option Addr) (n' cap' : Nat) (x' : Int) (s2 : Bool) (a2 : Option Addr) (n2 cap2 : Nat) (x2 : Int) (c : Int) (w : World) (hT : Tb w) (hc0 : Hid (∀ W : World,Below w.heap.size w W → Calls Tryd.prog 29 #[.agg #[.bool s,.slice a n cap,.int .i64 x]] W fun e w' => e = .returned (.int .i64 0) ∧ Below W.heap.size W w')) (ha0 : (n : Int) ≤ 200) (hb0_ : x ≤ 3000) (hd0 : -3000 ≤ x) (hc1 : Hid (∀ W : World,Below w.heap.size w W → Calls Tryd.prog 29 #[.agg #[.bool s',.slice a' n' cap',.int .i64 x']] W fun e w' => e = .returned (.int .i64 0) ∧ Below W.heap.size W w')) (ha1 : (n' : Int) ≤ 200) (hb1_ : x' ≤ 3000) (hd1 : -3000 ≤ x') (hc2 : Hid (∀ W : World,Below w.heap.size w W → Calls Tryd.prog 29 #[.agg #[.bool s2,.slice a2 n2 cap2,.int .i64 x2]] W fun e w' => e = .returned (.int .i64 c) ∧ Below W.heap.size W w')) (hcc : (c != 0) = true) :
  Calls Tryd.prog 7 #[.agg #[.bool s,.slice a n cap,.int .i64 x],.agg #[.bool s',.slice a' n' cap',.int .i64 x'],.agg #[.bool s2,.slice a2 n2 cap2,.int .i64 x2]] w fun e w' => e = .returned (.bool true) ∧ Below w.heap.size w w' := by
 have HT := hide hT
 clear hT
 go_enter Tryd.func7,Tryd.ntmps7
 go_wp2_with fail
 refine (alive_any _ ((((unhide HT).alloc _).alloc _).alloc _)).mono ?_
 rintro e w1 ⟨rfl,hb1⟩
 have hS := (Fs.three w _ _ _ _ _ _).kept hb1
 obtain ⟨⟨z1_0_0,z1_0_1,z1_0_2,-⟩,⟨z1_1_0,z1_1_1,z1_1_2,-⟩,⟨z1_2_0,z1_2_1,z1_2_2,-⟩,-⟩ := hS.cells
 go_wp2_with fail
 have hltw1_0 : w.heap.size < w1.heap.size := block_lt (hS.bx ⟨w.heap.size,#[.bool s,.slice a n cap,.int .i64 x],26⟩ (by simp))
 have hltw1_1 : w.heap.size + 1 < w1.heap.size := block_lt (hS.bx ⟨w.heap.size + 1,#[.bool s',.slice a' n' cap',.int .i64 x'],26⟩ (by simp))
 have hltw1_2 : w.heap.size + 2 < w1.heap.size := block_lt (hS.bx ⟨w.heap.size + 2,#[.bool s2,.slice a2 n2 cap2,.int .i64 x2],26⟩ (by simp))
 replace hS := hS.alloc #[.bool s,.slice a n cap,.int .i64 x,.bool s',.slice a' n' cap',.int .i64 x',.bool s2,.slice a2 n2 cap2,.int .i64 x2] 26
 refine wp_loop_rounds 4 ?_
 rw [rounds_succ]
 go_wp2_with fail
 refine (unhide hc0 _ hS.fr).mono ?_
 rintro e w2 ⟨rfl,hb2⟩
 replace hS := hS.kept hb2
 clear z1_0_0 z1_0_1 z1_0_2 z1_1_0 z1_1_1 z1_1_2 z1_2_0 z1_2_1 z1_2_2
 obtain ⟨⟨z2_0_0,z2_0_1,z2_0_2,z2_0_3,z2_0_4,z2_0_5,z2_0_6,z2_0_7,z2_0_8,-⟩,⟨z2_1_0,z2_1_1,z2_1_2,-⟩,⟨z2_2_0,z2_2_1,z2_2_2,-⟩,⟨z2_3_0,z2_3_1,z2_3_2,-⟩,-⟩ := hS.cells
 go_wp2_with fail
 rw [rounds_succ]
 go_wp2_with fail
 refine (unhide hc1 _ hS.fr).mono ?_
 rintro e w3 ⟨rfl,hb3⟩
 replace hS := hS.kept hb3
 clear z2_0_0 z2_0_1 z2_0_2 z2_0_3 z2_0_4 z2_0_5 z2_0_6 z2_0_7 z2_0_8 z2_1_0 z2_1_1 z2_1_2 z2_2_0 z2_2_1 z2_2_2 z2_3_0 z2_3_1 z2_3_2
 obtain ⟨⟨z3_0_0,z3_0_1,z3_0_2,z3_0_3,z3_0_4,z3_0_5,z3_0_6,z3_0_7,z3_0_8,-⟩,⟨z3_1_0,z3_1_1,z3_1_2,-⟩,⟨z3_2_0,z3_2_1,z3_2_2,-⟩,⟨z3_3_0,z3_3_1,z3_3_2,-⟩,-⟩ := hS.cells
 go_wp2_with fail
 rw [rounds_succ]
 go_wp2_with fail
 refine (unhide hc2 _ hS.fr).mono ?_
 rintro e w4 ⟨rfl,hb4⟩
 replace hS := hS.kept hb4
 clear z3_0_0 z3_0_1 z3_0_2 z3_0_3 z3_0_4 z3_0_5 z3_0_6 z3_0_7 z3_0_8 z3_1_0 z3_1_1 z3_1_2 z3_2_0 z3_2_1 z3_2_2 z3_3_0 z3_3_1 z3_3_2
 obtain ⟨⟨z4_0_0,z4_0_1,z4_0_2,z4_0_3,z4_0_4,z4_0_5,z4_0_6,z4_0_7,z4_0_8,-⟩,⟨z4_1_0,z4_1_1,z4_1_2,-⟩,⟨z4_2_0,z4_2_1,z4_2_2,-⟩,⟨z4_3_0,z4_3_1,z4_3_2,-⟩,-⟩ := hS.cells
 go_wp2
 go_ret
 exact ⟨rfl,hS.fr⟩
set_option maxRecDepth 20000 in
set_option maxHeartbeats 4000000 in
theorem over_2B (s : Bool) (a : Option Addr) (n cap : Nat) (x : Int) (s' : Bool) (a' : Option Addr) (n' cap' : Nat) (x' : Int) (s2 : Bool) (a2 : Option Addr) (n2 cap2 : Nat) (x2 : Int) (w : World) (hT : Tb w) (hc0 : Hid (∀ W : World,Below w.heap.size w W → Calls Tryd.prog 29 #[.agg #[.bool s,.slice a n cap,.int .i64 x]] W fun e w' => e = .returned (.int .i64 0) ∧ Below W.heap.size W w')) (ha0 : (n : Int) ≤ 200) (hb0_ : x ≤ 3000) (hd0 : -3000 ≤ x) (hc1 : Hid (∀ W : World,Below w.heap.size w W → Calls Tryd.prog 29 #[.agg #[.bool s',.slice a' n' cap',.int .i64 x']] W fun e w' => e = .returned (.int .i64 0) ∧ Below W.heap.size W w')) (ha1 : (n' : Int) ≤ 200) (hb1_ : x' ≤ 3000) (hd1 : -3000 ≤ x') (hc2 : Hid (∀ W : World,Below w.heap.size w W → Calls Tryd.prog 29 #[.agg #[.bool s2,.slice a2 n2 cap2,.int .i64 x2]] W fun e w' => e = .returned (.int .i64 0) ∧ Below W.heap.size W w')) (hn9 : (200 : Int) < (n2 : Int)) :
  Calls Tryd.prog 7 #[.agg #[.bool s,.slice a n cap,.int .i64 x],.agg #[.bool s',.slice a' n' cap',.int .i64 x'],.agg #[.bool s2,.slice a2 n2 cap2,.int .i64 x2]] w fun e w' => e = .returned (.bool true) ∧ Below w.heap.size w w' := by
 have HT := hide hT
 clear hT
 go_enter Tryd.func7,Tryd.ntmps7
 go_wp2_with fail
 refine (alive_any _ ((((unhide HT).alloc _).alloc _).alloc _)).mono ?_
 rintro e w1 ⟨rfl,hb1⟩
 have hS := (Fs.three w _ _ _ _ _ _).kept hb1
 obtain ⟨⟨z1_0_0,z1_0_1,z1_0_2,-⟩,⟨z1_1_0,z1_1_1,z1_1_2,-⟩,⟨z1_2_0,z1_2_1,z1_2_2,-⟩,-⟩ := hS.cells
 go_wp2_with fail
 have hltw1_0 : w.heap.size < w1.heap.size := block_lt (hS.bx ⟨w.heap.size,#[.bool s,.slice a n cap,.int .i64 x],26⟩ (by simp))
 have hltw1_1 : w.heap.size + 1 < w1.heap.size := block_lt (hS.bx ⟨w.heap.size + 1,#[.bool s',.slice a' n' cap',.int .i64 x'],26⟩ (by simp))
 have hltw1_2 : w.heap.size + 2 < w1.heap.size := block_lt (hS.bx ⟨w.heap.size + 2,#[.bool s2,.slice a2 n2 cap2,.int .i64 x2],26⟩ (by simp))
 replace hS := hS.alloc #[.bool s,.slice a n cap,.int .i64 x,.bool s',.slice a' n' cap',.int .i64 x',.bool s2,.slice a2 n2 cap2,.int .i64 x2] 26
 refine wp_loop_rounds 4 ?_
 rw [rounds_succ]
 go_wp2_with fail
 refine (unhide hc0 _ hS.fr).mono ?_
 rintro e w2 ⟨rfl,hb2⟩
 replace hS := hS.kept hb2
 clear z1_0_0 z1_0_1 z1_0_2 z1_1_0 z1_1_1 z1_1_2 z1_2_0 z1_2_1 z1_2_2
 obtain ⟨⟨z2_0_0,z2_0_1,z2_0_2,z2_0_3,z2_0_4,z2_0_5,z2_0_6,z2_0_7,z2_0_8,-⟩,⟨z2_1_0,z2_1_1,z2_1_2,-⟩,⟨z2_2_0,z2_2_1,z2_2_2,-⟩,⟨z2_3_0,z2_3_1,z2_3_2,-⟩,-⟩ := hS.cells
 go_wp2_with fail
 rw [rounds_succ]
 go_wp2_with fail
 refine (unhide hc1 _ hS.fr).mono ?_
 rintro e w3 ⟨rfl,hb3⟩
 replace hS := hS.kept hb3
 clear z2_0_0 z2_0_1 z2_0_2 z2_0_3 z2_0_4 z2_0_5 z2_0_6 z2_0_7 z2_0_8 z2_1_0 z2_1_1 z2_1_2 z2_2_0 z2_2_1 z2_2_2 z2_3_0 z2_3_1 z2_3_2
 obtain ⟨⟨z3_0_0,z3_0_1,z3_0_2,z3_0_3,z3_0_4,z3_0_5,z3_0_6,z3_0_7,z3_0_8,-⟩,⟨z3_1_0,z3_1_1,z3_1_2,-⟩,⟨z3_2_0,z3_2_1,z3_2_2,-⟩,⟨z3_3_0,z3_3_1,z3_3_2,-⟩,-⟩ := hS.cells
 go_wp2_with fail
 rw [rounds_succ]
 go_wp2_with fail
 refine (unhide hc2 _ hS.fr).mono ?_
 rintro e w4 ⟨rfl,hb4⟩
 replace hS := hS.kept hb4
 clear z3_0_0 z3_0_1 z3_0_2 z3_0_3 z3_0_4 z3_0_5 z3_0_6 z3_0_7 z3_0_8 z3_1_0 z3_1_1 z3_1_2 z3_2_0 z3_2_1 z3_2_2 z3_3_0 z3_3_1 z3_3_2
 obtain ⟨⟨z4_0_0,z4_0_1,z4_0_2,z4_0_3,z4_0_4,z4_0_5,z4_0_6,z4_0_7,z4_0_8,-⟩,⟨z4_1_0,z4_1_1,z4_1_2,-⟩,⟨z4_2_0,z4_2_1,z4_2_2,-⟩,⟨z4_3_0,z4_3_1,z4_3_2,-⟩,-⟩ := hS.cells
 go_wp2
 go_ret
 exact ⟨rfl,hS.fr⟩
set_option maxRecDepth 20000 in
set_option maxHeartbeats 4000000 in
theorem over_2C (s : Bool) (a : Option Addr) (n cap : Nat) (x : Int) (s' : Bool) (a' : Option Addr) (n' cap' : Nat) (x' : Int) (s2 : Bool) (a2 : Option Addr) (n2 cap2 : Nat) (x2 : Int) (w : World) (hT : Tb w) (hc0 : Hid (∀ W : World,Below w.heap.size w W → Calls Tryd.prog 29 #[.agg #[.bool s,.slice a n cap,.int .i64 x]] W fun e w' => e = .returned (.int .i64 0) ∧ Below W.heap.size W w')) (ha0 : (n : Int) ≤ 200) (hb0_ : x ≤ 3000) (hd0 : -3000 ≤ x) (hc1 : Hid (∀ W : World,Below w.heap.size w W → Calls Tryd.prog 29 #[.agg #[.bool s',.slice a' n' cap',.int .i64 x']] W fun e w' => e = .returned (.int .i64 0) ∧ Below W.heap.size W w')) (ha1 : (n' : Int) ≤ 200) (hb1_ : x' ≤ 3000) (hd1 : -3000 ≤ x') (hc2 : Hid (∀ W : World,Below w.heap.size w W → Calls Tryd.prog 29 #[.agg #[.bool s2,.slice a2 n2 cap2,.int .i64 x2]] W fun e w' => e = .returned (.int .i64 0) ∧ Below W.heap.size W w')) (hn9 : (n2 : Int) ≤ 200) (hx9 : 3000 < x2) :
  Calls Tryd.prog 7 #[.agg #[.bool s,.slice a n cap,.int .i64 x],.agg #[.bool s',.slice a' n' cap',.int .i64 x'],.agg #[.bool s2,.slice a2 n2 cap2,.int .i64 x2]] w fun e w' => e = .returned (.bool true) ∧ Below w.heap.size w w' := by
 have HT := hide hT
 clear hT
 go_enter Tryd.func7,Tryd.ntmps7
 go_wp2_with fail
 refine (alive_any _ ((((unhide HT).alloc _).alloc _).alloc _)).mono ?_
 rintro e w1 ⟨rfl,hb1⟩
 have hS := (Fs.three w _ _ _ _ _ _).kept hb1
 obtain ⟨⟨z1_0_0,z1_0_1,z1_0_2,-⟩,⟨z1_1_0,z1_1_1,z1_1_2,-⟩,⟨z1_2_0,z1_2_1,z1_2_2,-⟩,-⟩ := hS.cells
 go_wp2_with fail
 have hltw1_0 : w.heap.size < w1.heap.size := block_lt (hS.bx ⟨w.heap.size,#[.bool s,.slice a n cap,.int .i64 x],26⟩ (by simp))
 have hltw1_1 : w.heap.size + 1 < w1.heap.size := block_lt (hS.bx ⟨w.heap.size + 1,#[.bool s',.slice a' n' cap',.int .i64 x'],26⟩ (by simp))
 have hltw1_2 : w.heap.size + 2 < w1.heap.size := block_lt (hS.bx ⟨w.heap.size + 2,#[.bool s2,.slice a2 n2 cap2,.int .i64 x2],26⟩ (by simp))
 replace hS := hS.alloc #[.bool s,.slice a n cap,.int .i64 x,.bool s',.slice a' n' cap',.int .i64 x',.bool s2,.slice a2 n2 cap2,.int .i64 x2] 26
 refine wp_loop_rounds 4 ?_
 rw [rounds_succ]
 go_wp2_with fail
 refine (unhide hc0 _ hS.fr).mono ?_
 rintro e w2 ⟨rfl,hb2⟩
 replace hS := hS.kept hb2
 clear z1_0_0 z1_0_1 z1_0_2 z1_1_0 z1_1_1 z1_1_2 z1_2_0 z1_2_1 z1_2_2
 obtain ⟨⟨z2_0_0,z2_0_1,z2_0_2,z2_0_3,z2_0_4,z2_0_5,z2_0_6,z2_0_7,z2_0_8,-⟩,⟨z2_1_0,z2_1_1,z2_1_2,-⟩,⟨z2_2_0,z2_2_1,z2_2_2,-⟩,⟨z2_3_0,z2_3_1,z2_3_2,-⟩,-⟩ := hS.cells
 go_wp2_with fail
 rw [rounds_succ]
 go_wp2_with fail
 refine (unhide hc1 _ hS.fr).mono ?_
 rintro e w3 ⟨rfl,hb3⟩
 replace hS := hS.kept hb3
 clear z2_0_0 z2_0_1 z2_0_2 z2_0_3 z2_0_4 z2_0_5 z2_0_6 z2_0_7 z2_0_8 z2_1_0 z2_1_1 z2_1_2 z2_2_0 z2_2_1 z2_2_2 z2_3_0 z2_3_1 z2_3_2
 obtain ⟨⟨z3_0_0,z3_0_1,z3_0_2,z3_0_3,z3_0_4,z3_0_5,z3_0_6,z3_0_7,z3_0_8,-⟩,⟨z3_1_0,z3_1_1,z3_1_2,-⟩,⟨z3_2_0,z3_2_1,z3_2_2,-⟩,⟨z3_3_0,z3_3_1,z3_3_2,-⟩,-⟩ := hS.cells
 go_wp2_with fail
 rw [rounds_succ]
 go_wp2_with fail
 refine (unhide hc2 _ hS.fr).mono ?_
 rintro e w4 ⟨rfl,hb4⟩
 replace hS := hS.kept hb4
 clear z3_0_0 z3_0_1 z3_0_2 z3_0_3 z3_0_4 z3_0_5 z3_0_6 z3_0_7 z3_0_8 z3_1_0 z3_1_1 z3_1_2 z3_2_0 z3_2_1 z3_2_2 z3_3_0 z3_3_1 z3_3_2
 obtain ⟨⟨z4_0_0,z4_0_1,z4_0_2,z4_0_3,z4_0_4,z4_0_5,z4_0_6,z4_0_7,z4_0_8,-⟩,⟨z4_1_0,z4_1_1,z4_1_2,-⟩,⟨z4_2_0,z4_2_1,z4_2_2,-⟩,⟨z4_3_0,z4_3_1,z4_3_2,-⟩,-⟩ := hS.cells
 go_wp2
 go_ret
 exact ⟨rfl,hS.fr⟩
set_option maxRecDepth 20000 in
set_option maxHeartbeats 4000000 in
theorem over_2D (s : Bool) (a : Option Addr) (n cap : Nat) (x : Int) (s' : Bool) (a' : Option Addr) (n' cap' : Nat) (x' : Int) (s2 : Bool) (a2 : Option Addr) (n2 cap2 : Nat) (x2 : Int) (w : World) (hT : Tb w) (hc0 : Hid (∀ W : World,Below w.heap.size w W → Calls Tryd.prog 29 #[.agg #[.bool s,.slice a n cap,.int .i64 x]] W fun e w' => e = .returned (.int .i64 0) ∧ Below W.heap.size W w')) (ha0 : (n : Int) ≤ 200) (hb0_ : x ≤ 3000) (hd0 : -3000 ≤ x) (hc1 : Hid (∀ W : World,Below w.heap.size w W → Calls Tryd.prog 29 #[.agg #[.bool s',.slice a' n' cap',.int .i64 x']] W fun e w' => e = .returned (.int .i64 0) ∧ Below W.heap.size W w')) (ha1 : (n' : Int) ≤ 200) (hb1_ : x' ≤ 3000) (hd1 : -3000 ≤ x') (hc2 : Hid (∀ W : World,Below w.heap.size w W → Calls Tryd.prog 29 #[.agg #[.bool s2,.slice a2 n2 cap2,.int .i64 x2]] W fun e w' => e = .returned (.int .i64 0) ∧ Below W.heap.size W w')) (hn9 : (n2 : Int) ≤ 200) (hx9 : x2 ≤ 3000) (hy9 : x2 < -3000) :
  Calls Tryd.prog 7 #[.agg #[.bool s,.slice a n cap,.int .i64 x],.agg #[.bool s',.slice a' n' cap',.int .i64 x'],.agg #[.bool s2,.slice a2 n2 cap2,.int .i64 x2]] w fun e w' => e = .returned (.bool true) ∧ Below w.heap.size w w' := by
 have HT := hide hT
 clear hT
 go_enter Tryd.func7,Tryd.ntmps7
 go_wp2_with fail
 refine (alive_any _ ((((unhide HT).alloc _).alloc _).alloc _)).mono ?_
 rintro e w1 ⟨rfl,hb1⟩
 have hS := (Fs.three w _ _ _ _ _ _).kept hb1
 obtain ⟨⟨z1_0_0,z1_0_1,z1_0_2,-⟩,⟨z1_1_0,z1_1_1,z1_1_2,-⟩,⟨z1_2_0,z1_2_1,z1_2_2,-⟩,-⟩ := hS.cells
 go_wp2_with fail
 have hltw1_0 : w.heap.size < w1.heap.size := block_lt (hS.bx ⟨w.heap.size,#[.bool s,.slice a n cap,.int .i64 x],26⟩ (by simp))
 have hltw1_1 : w.heap.size + 1 < w1.heap.size := block_lt (hS.bx ⟨w.heap.size + 1,#[.bool s',.slice a' n' cap',.int .i64 x'],26⟩ (by simp))
 have hltw1_2 : w.heap.size + 2 < w1.heap.size := block_lt (hS.bx ⟨w.heap.size + 2,#[.bool s2,.slice a2 n2 cap2,.int .i64 x2],26⟩ (by simp))
 replace hS := hS.alloc #[.bool s,.slice a n cap,.int .i64 x,.bool s',.slice a' n' cap',.int .i64 x',.bool s2,.slice a2 n2 cap2,.int .i64 x2] 26
 refine wp_loop_rounds 4 ?_
 rw [rounds_succ]
 go_wp2_with fail
 refine (unhide hc0 _ hS.fr).mono ?_
 rintro e w2 ⟨rfl,hb2⟩
 replace hS := hS.kept hb2
 clear z1_0_0 z1_0_1 z1_0_2 z1_1_0 z1_1_1 z1_1_2 z1_2_0 z1_2_1 z1_2_2
 obtain ⟨⟨z2_0_0,z2_0_1,z2_0_2,z2_0_3,z2_0_4,z2_0_5,z2_0_6,z2_0_7,z2_0_8,-⟩,⟨z2_1_0,z2_1_1,z2_1_2,-⟩,⟨z2_2_0,z2_2_1,z2_2_2,-⟩,⟨z2_3_0,z2_3_1,z2_3_2,-⟩,-⟩ := hS.cells
 go_wp2_with fail
 rw [rounds_succ]
 go_wp2_with fail
 refine (unhide hc1 _ hS.fr).mono ?_
 rintro e w3 ⟨rfl,hb3⟩
 replace hS := hS.kept hb3
 clear z2_0_0 z2_0_1 z2_0_2 z2_0_3 z2_0_4 z2_0_5 z2_0_6 z2_0_7 z2_0_8 z2_1_0 z2_1_1 z2_1_2 z2_2_0 z2_2_1 z2_2_2 z2_3_0 z2_3_1 z2_3_2
 obtain ⟨⟨z3_0_0,z3_0_1,z3_0_2,z3_0_3,z3_0_4,z3_0_5,z3_0_6,z3_0_7,z3_0_8,-⟩,⟨z3_1_0,z3_1_1,z3_1_2,-⟩,⟨z3_2_0,z3_2_1,z3_2_2,-⟩,⟨z3_3_0,z3_3_1,z3_3_2,-⟩,-⟩ := hS.cells
 go_wp2_with fail
 rw [rounds_succ]
 go_wp2_with fail
 refine (unhide hc2 _ hS.fr).mono ?_
 rintro e w4 ⟨rfl,hb4⟩
 replace hS := hS.kept hb4
 clear z3_0_0 z3_0_1 z3_0_2 z3_0_3 z3_0_4 z3_0_5 z3_0_6 z3_0_7 z3_0_8 z3_1_0 z3_1_1 z3_1_2 z3_2_0 z3_2_1 z3_2_2 z3_3_0 z3_3_1 z3_3_2
 obtain ⟨⟨z4_0_0,z4_0_1,z4_0_2,z4_0_3,z4_0_4,z4_0_5,z4_0_6,z4_0_7,z4_0_8,-⟩,⟨z4_1_0,z4_1_1,z4_1_2,-⟩,⟨z4_2_0,z4_2_1,z4_2_2,-⟩,⟨z4_3_0,z4_3_1,z4_3_2,-⟩,-⟩ := hS.cells
 go_wp2
 go_ret
 exact ⟨rfl,hS.fr⟩
end Go.Proofs.YtecmcjlgknfnlaaDoor
namespace Go.Proofs.YtecmcjlgknfnlaaDoor
open Go.RowKit
theorem dmul_over (a a' : Option Addr) (n n' cap cap' m m' : Nat) (w : World) (h : Num w a n m) (h' : Num w a' n' m') (ho : Over (m * m')) :
  Calls Tryd.prog 75 #[.agg #[.slice a n cap],.agg #[.slice a' n' cap']] w fun e w' => e = .returned (.tuple #[.agg #[.slice none 0 0],.int .i64 4]) ∧ Below w.heap.size w w' := by
 refine (mul_any a a' n n' cap cap' m m' w h h').mono ?_
 rintro e w' ⟨⟨_,_,_,_,h1⟩ | h1,hb⟩
 ·exact absurd h1.num.lt (Nat.not_lt.2 ho.le)
 ·exact ⟨h1.1,hb⟩
set_option maxHeartbeats 1000000 in
theorem Mul_over (s : Bool) (a : Option Addr) (n cap m : Nat) (x : Int) (s' : Bool) (a' : Option Addr) (n' cap' m' : Nat) (x' : Int) (w : World) (h : Dy w s a n m x) (h' : Dy w s' a' n' m' x') (hn : 0 < n) (hn' : 0 < n') (hx : -1073741824 ≤ x + x' ∧ x + x' ≤ 1073741824) (ho : Over (m * m')) :
  Calls Tryd.prog 31 #[.agg #[.bool s,.slice a n cap,.int .i64 x],.agg #[.bool s',.slice a' n' cap',.int .i64 x']] w fun e w' => e = .returned (.tuple #[.agg #[.bool false,.slice none 0 0,.int .i64 0],.int .i64 4]) ∧ Below w.heap.size w w' := by
 have H := hide h
 have H' := hide h'
 have HO := hide ho
 have hxr := h.range
 have hxr' := h'.range
 clear h h' ho
 go_enter Tryd.func31,Tryd.ntmps31
 go_wp2_with fail
 refine (checkBoth_dy s a n cap m x s' a' n' cap' m' x' _ ((unhide H).kept (gr_trans (gr_trans (gr_alloc _ _) (gr_alloc _ _)) (gr_alloc _ _))) ((unhide H').kept (gr_trans (gr_trans (gr_alloc _ _) (gr_alloc _ _)) (gr_alloc _ _)))).mono ?_
 rintro e w1 ⟨rfl,hb1⟩
 have hS := (Fs.three w _ _ _ _ _ _).kept hb1
 obtain ⟨⟨z1_0_0,z1_0_1,z1_0_2,-⟩,⟨z1_1_0,z1_1_1,z1_1_2,-⟩,⟨z1_2_0,z1_2_1,z1_2_2,-⟩,-⟩ := hS.cells
 go_wp2_with fail
 refine (isNought_no a n cap hn _).mono ?_
 rintro e w2 ⟨rfl,hb2⟩
 replace hS := hS.kept hb2
 clear z1_0_0 z1_0_1 z1_0_2 z1_1_0 z1_1_1 z1_1_2 z1_2_0 z1_2_1 z1_2_2
 obtain ⟨⟨z2_0_0,z2_0_1,z2_0_2,-⟩,⟨z2_1_0,z2_1_1,z2_1_2,-⟩,⟨z2_2_0,z2_2_1,z2_2_2,-⟩,-⟩ := hS.cells
 go_wp2_with fail
 refine (isNought_no a' n' cap' hn' _).mono ?_
 rintro e w3 ⟨rfl,hb3⟩
 replace hS := hS.kept hb3
 clear z2_0_0 z2_0_1 z2_0_2 z2_1_0 z2_1_1 z2_1_2 z2_2_0 z2_2_1 z2_2_2
 obtain ⟨⟨z3_0_0,z3_0_1,z3_0_2,-⟩,⟨z3_1_0,z3_1_1,z3_1_2,-⟩,⟨z3_2_0,z3_2_1,z3_2_2,-⟩,-⟩ := hS.cells
 go_wp2_with fail
 refine (beyond_no _ hx _).mono ?_
 rintro e w4 ⟨rfl,hb4⟩
 replace hS := hS.kept hb4
 clear z3_0_0 z3_0_1 z3_0_2 z3_1_0 z3_1_1 z3_1_2 z3_2_0 z3_2_1 z3_2_2
 obtain ⟨⟨z4_0_0,z4_0_1,z4_0_2,-⟩,⟨z4_1_0,z4_1_1,z4_1_2,-⟩,⟨z4_2_0,z4_2_1,z4_2_2,-⟩,-⟩ := hS.cells
 go_wp2_with fail
 refine (dmul_over a a' n n' cap cap' m m' _ ((unhide H).kept hS.fr).num ((unhide H').kept hS.fr).num (unhide HO)).mono ?_
 rintro e w5 ⟨rfl,hb5⟩
 replace hS := hS.kept hb5
 clear z4_0_0 z4_0_1 z4_0_2 z4_1_0 z4_1_1 z4_1_2 z4_2_0 z4_2_1 z4_2_2
 obtain ⟨⟨z5_0_0,z5_0_1,z5_0_2,-⟩,⟨z5_1_0,z5_1_1,z5_1_2,-⟩,⟨z5_2_0,z5_2_1,z5_2_2,-⟩,-⟩ := hS.cells
 have hltw5_0 : w.heap.size < w5.heap.size := block_lt (hS.bx ⟨w.heap.size,#[.bool s,.slice a n cap,.int .i64 x],26⟩ (by simp))
 have hltw5_1 : w.heap.size + 1 < w5.heap.size := block_lt (hS.bx ⟨w.heap.size + 1,#[.bool s',.slice a' n' cap',.int .i64 x'],26⟩ (by simp))
 have hltw5_2 : w.heap.size + 2 < w5.heap.size := block_lt (hS.bx ⟨w.heap.size + 2,#[.bool false,.slice none 0 0,.int .i64 0],26⟩ (by simp))
 have fz0 := hS.frozen (b := w.heap.size + 2) (cs := #[.bool false,.slice none 0 0,.int .i64 0]) (t := 26) (by simp) 0
 have fz1 := hS.frozen (b := w.heap.size + 2) (cs := #[.bool false,.slice none 0 0,.int .i64 0]) (t := 26) (by simp) 1
 have fz2 := hS.frozen (b := w.heap.size + 2) (cs := #[.bool false,.slice none 0 0,.int .i64 0]) (t := 26) (by simp) 2
 go_wp2
 have hB := fun u0 u1 u2 => ((hS.fr.setCell (p := ⟨w.heap.size + 2,0,none⟩) (by simp <;> omega) u0).setCell (p := ⟨w.heap.size + 2,1,none⟩) (by simp <;> omega) u1).setCell (p := ⟨w.heap.size + 2,2,none⟩) (by simp <;> omega) u2
 exact bodyPost_ret (v := .tuple #[.agg #[.bool false,.slice none 0 0,.int .i64 0],.int .i64 4]) (by simp [results,Tryd.results31,go_sem,z5_2_0,z5_2_1,z5_2_2,hltw5_2]) rfl ⟨rfl,(hB _ _ _).alloc (hB _ _ _).size _⟩
end Go.Proofs.YtecmcjlgknfnlaaDoor
namespace Go.Proofs.YtecmcjlgknfnlaaDoor
open Go.RowKit
end Go.Proofs.YtecmcjlgknfnlaaDoor
namespace Go.Proofs.YtecmcjlgknfnlaaDoor
open Go.RowKit
def OkD (s : Bool) (m : Nat) (x : Int) : Prop := (m = 0 ∧ s = false ∧ x = 0) ∨ (m % 2 = 1 ∧ -1073741824 ≤ x ∧ x ≤ 1073741824)
def Sums (s : Bool) (m : Nat) (x : Int) (s' : Bool) (m' : Nat) (x' : Int) (er : Int) (r : Bool) (v : Nat) (y : Int) : Prop :=
 ∀ (W : World) (A : Option Addr) (N C : Nat) (A' : Option Addr) (N' C' : Nat),Num W A N m → Num W A' N' m' → Tb W →
  Calls Tryd.prog 30 #[.agg #[.bool s,.slice A N C,.int .i64 x],.agg #[.bool s',.slice A' N' C',.int .i64 x']] W fun e w' => (∃ A N C,e = .returned (.tuple #[.agg #[.bool r,.slice A N C,.int .i64 y],.int .i64 er]) ∧ Num w' A N v) ∧ Below W.heap.size W w'
theorem num_none (w : World) : Num w none 0 0 := ⟨[],rfl,Or.inl rfl,Pl.wf_nil,Pl.norm_nil,rfl,by omega⟩
theorem Sums.many {s : Bool} {m : Nat} {x : Int} {s' : Bool} {m' : Nat} {x' : Int} (h : ∀ (W : World) (A : Option Addr) (N C : Nat) (A' : Option Addr) (N' C' : Nat),Num W A N m → Num W A' N' m' → Tb W →
  Calls Tryd.prog 30 #[.agg #[.bool s,.slice A N C,.int .i64 x],.agg #[.bool s',.slice A' N' C',.int .i64 x']] W fun e w' => e = .returned (.tuple #[.agg #[.bool false,.slice none 0 0,.int .i64 0],.int .i64 4]) ∧ Below W.heap.size W w') : Sums s m x s' m' x' 4 false 0 0 := fun W A N C A' N' C' g g' hT => by
 refine (h W A N C A' N' C' g g' hT).mono ?_
 rintro e w' ⟨rfl,hb⟩
 exact ⟨⟨none,0,0,rfl,num_none _⟩,hb⟩
theorem Sums.of {s : Bool} {m : Nat} {x : Int} {s' : Bool} {m' : Nat} {x' t : Int} {i j v : Nat} {r : Bool} (hm : m % 2 = 1 ∧ -1073741824 ≤ x ∧ x ≤ 1073741824) (hm' : m' % 2 = 1 ∧ -1073741824 ≤ x' ∧ x' ≤ 1073741824) (ht : min x x' = t) (hi : x - t = (i : Int)) (hj : x' - t = (j : Int)) (hno : ¬ Over (m * 2 ^ i)) (hno' : ¬ Over (m' * 2 ^ j))
  (hS : ∀ (W : World) (A : Option Addr) (N C : Nat) (A' : Option Addr) (N' C' : Nat),Num W A N (m * 2 ^ i) → Num W A' N' (m' * 2 ^ j) → Calls Tryd.prog 74 #[.bool s,.agg #[.slice A N C],.bool s',.agg #[.slice A' N' C']] W fun e w' => (∃ A N C,e = .returned (.tuple #[.bool r,.agg #[.slice A N C],.int .i64 0]) ∧ Mine w' W.heap.size A N C v) ∧ Below W.heap.size W w') (hv : v < 4294967296 ^ Pl.top) :
  (v = 0 ∧ Sums s m x s' m' x' 0 false 0 0) ∨ ∃ z,0 < v ∧ Tz v z ∧ z < 524288 ∧ ((-1073741824 ≤ t + z ∧ t + z ≤ 1073741824 ∧ Sums s m x s' m' x' 0 r (v / 2 ^ z) (t + (z : Int))) ∨ ((1073741824 < t + z ∨ t + z < -1073741824) ∧ Sums s m x s' m' x' 4 false 0 0)) := by
 have hp : ∀ {W : World} {A : Option Addr} {N : Nat},Num W A N m → 0 < N := fun g => by have := g.zero; omega
 have hp' : ∀ {W : World} {A : Option Addr} {N : Nat},Num W A N m' → 0 < N := fun g => by have := g.zero; omega
 rcases Nat.eq_zero_or_pos v with h0 | h0
 ·subst h0
  refine Or.inl ⟨rfl,fun W A N C A' N' C' g g' _ => ?_⟩
  refine (Add_zero s A N C m x s' A' N' C' m' x' t i j r W ⟨g,Or.inr hm⟩ ⟨g',Or.inr hm'⟩ (hp g) (hp' g') ht hi hj (by omega) (by omega) hno hno' (hide hS)).mono ?_
  rintro e w' ⟨rfl,hb⟩
  exact ⟨⟨none,0,0,rfl,num_none _⟩,hb⟩
 ·have h2 : 4294967296 ^ Pl.top = 2 ^ (32 * Pl.top) := by rw [Nat.pow_mul]
  rw [h2] at hv
  obtain ⟨z,hz,hz2⟩ := tz_ex h0 hv
  have hz3 : z < 524288 := by have := Pl.top_eq; omega
  refine Or.inr ⟨z,h0,hz,hz3,?_⟩
  by_cases hx : -1073741824 ≤ t + z ∧ t + z ≤ 1073741824
  ·refine Or.inl ⟨hx.1,hx.2,fun W A N C A' N' C' g g' hT => ?_⟩
   refine (Add_num s A N C m x s' A' N' C' m' x' t i j v z r W ⟨g,Or.inr hm⟩ ⟨g',Or.inr hm'⟩ (hp g) (hp' g') hT ht hi hj (by omega) (by omega) hno hno' h0 hz hz3 hx (hide hS)).mono ?_
   rintro e w' ⟨⟨A,N,C,rfl,h1⟩,hb⟩
   exact ⟨⟨A,N,C,rfl,h1.num⟩,hb⟩
  ·refine Or.inr ⟨by omega,Sums.many fun W A N C A' N' C' g g' hT => ?_⟩
   by_cases hx1 : 1073741824 < t + z
   ·exact Add_above s A N C m x s' A' N' C' m' x' t i j v z r W ⟨g,Or.inr hm⟩ ⟨g',Or.inr hm'⟩ (hp g) (hp' g') ht hi hj (by omega) (by omega) hno hno' hT h0 hz hz3 hx1 (hide hS)
   ·exact Add_below s A N C m x s' A' N' C' m' x' t i j v z r W ⟨g,Or.inr hm⟩ ⟨g',Or.inr hm'⟩ (hp g) (hp' g') ht hi hj (by omega) (by omega) hno hno' hT h0 hz hz3 (by omega) (hide hS)
theorem sv_zero (s : Bool) : sv s 0 = 0 := by unfold sv; cases s <;> rfl
end Go.Proofs.YtecmcjlgknfnlaaDoor
namespace Go.Proofs.YtecmcjlgknfnlaaDoor
open Go.RowKit
end Go.Proofs.YtecmcjlgknfnlaaDoor
namespace Go.Proofs.YtecmcjlgknfnlaaDoor
open Go.RowKit
end Go.Proofs.YtecmcjlgknfnlaaDoor
namespace Go.Proofs.YtecmcjlgknfnlaaDoor
open Go.RowKit
def Prods (s : Bool) (m : Nat) (x : Int) (s' : Bool) (m' : Nat) (x' : Int) (er : Int) (r : Bool) (v : Nat) (y : Int) : Prop :=
 ∀ (W : World) (A : Option Addr) (N C : Nat) (A' : Option Addr) (N' C' : Nat),Num W A N m → Num W A' N' m' →
  Calls Tryd.prog 31 #[.agg #[.bool s,.slice A N C,.int .i64 x],.agg #[.bool s',.slice A' N' C',.int .i64 x']] W fun e w' => (∃ A N C,e = .returned (.tuple #[.agg #[.bool r,.slice A N C,.int .i64 y],.int .i64 er]) ∧ Num w' A N v) ∧ Below W.heap.size W w'
theorem Prods.plain {s : Bool} {m : Nat} {x : Int} {s' : Bool} {m' : Nat} {x' er : Int} (h : ∀ (W : World) (A : Option Addr) (N C : Nat) (A' : Option Addr) (N' C' : Nat),Num W A N m → Num W A' N' m' →
  Calls Tryd.prog 31 #[.agg #[.bool s,.slice A N C,.int .i64 x],.agg #[.bool s',.slice A' N' C',.int .i64 x']] W fun e w' => e = .returned (.tuple #[.agg #[.bool false,.slice none 0 0,.int .i64 0],.int .i64 er]) ∧ Below W.heap.size W w') : Prods s m x s' m' x' er false 0 0 := fun W A N C A' N' C' g g' => by
 refine (h W A N C A' N' C' g g').mono ?_
 rintro e w' ⟨rfl,hb⟩
 exact ⟨⟨none,0,0,rfl,num_none _⟩,hb⟩
theorem mul_one {s : Bool} {m : Nat} {x : Int} {s' : Bool} {m' : Nat} {x' : Int} (hA : OkD s m x) (hB : OkD s' m' x') :
  ((m = 0 ∨ m' = 0) ∧ Prods s m x s' m' x' 0 false 0 0) ∨ ((0 < m ∧ 0 < m') ∧ (((x + x' < -1073741824 ∨ 1073741824 < x + x' ∨ Over (m * m')) ∧ Prods s m x s' m' x' 4 false 0 0) ∨ (¬ (x + x' < -1073741824 ∨ 1073741824 < x + x' ∨ Over (m * m')) ∧ Prods s m x s' m' x' 0 (s != s') (m * m') (x + x')))) := by
 have hp : ∀ {W : World} {A : Option Addr} {N m : Nat},Num W A N m → 0 < m → 0 < N := fun g h => by have := g.zero; omega
 rcases Nat.eq_zero_or_pos m with h0 | h0
 ·refine Or.inl ⟨Or.inl h0,Prods.plain fun W A N C A' N' C' g g' => ?_⟩
  obtain rfl := g.zero.2 h0
  exact Mul_left s A C m x s' A' N' C' m' x' W ⟨g,hA⟩ ⟨g',hB⟩
 rcases Nat.eq_zero_or_pos m' with h1 | h1
 ·refine Or.inl ⟨Or.inr h1,Prods.plain fun W A N C A' N' C' g g' => ?_⟩
  obtain rfl := g'.zero.2 h1
  exact Mul_right s A N C m x s' A' C' m' x' W ⟨g,hA⟩ ⟨g',hB⟩ (hp g h0)
 refine Or.inr ⟨⟨h0,h1⟩,?_⟩
 by_cases hc : x + x' < -1073741824 ∨ 1073741824 < x + x' ∨ Over (m * m')
 ·refine Or.inl ⟨hc,Prods.plain fun W A N C A' N' C' g g' => ?_⟩
  by_cases c1 : x + x' < -1073741824
  ·exact Mul_below s A N C m x s' A' N' C' m' x' W ⟨g,hA⟩ ⟨g',hB⟩ (hp g h0) (hp g' h1) c1
  by_cases c2 : 1073741824 < x + x'
  ·exact Mul_above s A N C m x s' A' N' C' m' x' W ⟨g,hA⟩ ⟨g',hB⟩ (hp g h0) (hp g' h1) c2
  ·exact Mul_over s A N C m x s' A' N' C' m' x' W ⟨g,hA⟩ ⟨g',hB⟩ (hp g h0) (hp g' h1) (by omega) (by
    rcases hc with h | h | h
    ·exact absurd h c1
    ·exact absurd h c2
    ·exact h)
 ·refine Or.inr ⟨hc,fun W A N C A' N' C' g g' => ?_⟩
  refine (Mul_ok s A N C m x s' A' N' C' m' x' W ⟨g,hA⟩ ⟨g',hB⟩ (hp g h0) (hp g' h1) (by omega) (fun h => hc (Or.inr (Or.inr h)))).mono ?_
  rintro e w' ⟨⟨A,N,C,rfl,h2⟩,hb⟩
  exact ⟨⟨A,N,C,rfl,h2.num⟩,hb⟩
end Go.Proofs.YtecmcjlgknfnlaaDoor
namespace Go.Proofs.YtecmcjlgknfnlaaDoor
open Go.RowKit
theorem lt_of_pow2 {v d K z : Nat} (h : 2 ^ z ≤ v) (hv : v * 2 ^ d < 2 ^ K) : z + d < K := by
 have h1 : 2 ^ (z + d) < 2 ^ K := by
  rw [Nat.pow_add]
  exact Nat.lt_of_le_of_lt (Nat.mul_le_mul_right _ h) hv
 exact (Nat.pow_lt_pow_iff_right (by decide)).1 h1
theorem Tz.le {v z : Nat} (h : Tz v z) : 2 ^ z ≤ v := by
 obtain ⟨q,rfl⟩ := h
 exact Nat.le_mul_of_pos_right _ (by omega)
theorem sv_le {s s' r : Bool} {a b v : Nat} (h : sv r v = sv s a + sv s' b) : v ≤ a + b := by
 unfold sv at h
 cases s <;> cases s' <;> cases r <;> simp at h <;> omega
theorem add_in0 {s : Bool} {m : Nat} {x : Int} {s' : Bool} {m' : Nat} {x' t L : Int} {i j d v K : Nat} {r : Bool} (hm : m % 2 = 1 ∧ -1073741824 ≤ x ∧ x ≤ 1073741824) (hm' : m' % 2 = 1 ∧ -1073741824 ≤ x' ∧ x' ≤ 1073741824) (ht : min x x' = t) (hi : x - t = (i : Int)) (hj : x' - t = (j : Int)) (hd : t - L = (d : Int)) (hL : -1073741824 ≤ L) (hL0 : L ≤ 0) (hK : K ≤ 500000) (hk : m * 2 ^ (x - L).toNat < 2 ^ K) (hk' : m' * 2 ^ (x' - L).toNat < 2 ^ K)
  (hS : ∀ (W : World) (A : Option Addr) (N C : Nat) (A' : Option Addr) (N' C' : Nat),Num W A N (m * 2 ^ i) → Num W A' N' (m' * 2 ^ j) → Calls Tryd.prog 74 #[.bool s,.agg #[.slice A N C],.bool s',.agg #[.slice A' N' C']] W fun e w' => (∃ A N C,e = .returned (.tuple #[.bool r,.agg #[.slice A N C],.int .i64 0]) ∧ Mine w' W.heap.size A N C v) ∧ Below W.heap.size W w') (hw : sv r v = sv s (m * 2 ^ i) + sv s' (m' * 2 ^ j)) :
  ∃ q v y,Sums s m x s' m' x' 0 q v y ∧ OkD q v y ∧ L ≤ y ∧ v * 2 ^ (y - L).toNat < 2 ^ (K + 1) ∧ sv q (v * 2 ^ (y - L).toNat) = sv s (m * 2 ^ (x - L).toNat) + sv s' (m' * 2 ^ (x' - L).toNat) := by
 have e1 : (x - L).toNat = i + d := by omega
 have e2 : (x' - L).toNat = j + d := by omega
 rw [e1,Nat.pow_add,← Nat.mul_assoc] at hk
 rw [e2,Nat.pow_add,← Nat.mul_assoc] at hk'
 have hd1 : 1 ≤ 2 ^ d := pow_pos2 d
 have ha : m * 2 ^ i < 2 ^ K := Nat.lt_of_le_of_lt (Nat.le_mul_of_pos_right _ hd1) hk
 have hb : m' * 2 ^ j < 2 ^ K := Nat.lt_of_le_of_lt (Nat.le_mul_of_pos_right _ hd1) hk'
 have hle := sv_le hw
 have hvd : v * 2 ^ d < 2 ^ (K + 1) := by
  have h1 : v * 2 ^ d ≤ (m * 2 ^ i + m' * 2 ^ j) * 2 ^ d := Nat.mul_le_mul_right _ hle
  rw [Nat.add_mul] at h1
  rw [Nat.pow_succ]
  omega
 have hv : v < 2 ^ (K + 1) := Nat.lt_of_le_of_lt (Nat.le_mul_of_pos_right _ hd1) hvd
 have hvt : v < 4294967296 ^ Pl.top := Nat.lt_of_not_le fun hle => not_over hv (by omega) ⟨hle⟩
 have hsum : sv s (m * 2 ^ (x - L).toNat) + sv s' (m' * 2 ^ (x' - L).toNat) = sv r (v * 2 ^ d) := by
  rw [e1,e2,Nat.pow_add,Nat.pow_add,← Nat.mul_assoc,← Nat.mul_assoc,← sv_mul s (m * 2 ^ i),← sv_mul s' (m' * 2 ^ j),← sv_mul r v,← Int.add_mul,← hw]
 rcases Sums.of hm hm' ht hi hj (not_over ha (by omega)) (not_over hb (by omega)) hS hvt with ⟨h0,P⟩ | ⟨z,h0,hz,hz2,⟨p1,p2,P⟩ | ⟨p1,P⟩⟩
 ·refine ⟨false,0,0,P,Or.inl ⟨rfl,rfl,rfl⟩,hL0,by rw [Nat.zero_mul]; exact pow_pos2 _,?_⟩
  rw [hsum,h0,Nat.zero_mul,Nat.zero_mul,sv_zero,sv_zero]
 ·have e3 : (t + (z : Int) - L).toNat = z + d := by omega
  have e4 : v / 2 ^ z * 2 ^ (z + d) = v * 2 ^ d := by rw [Nat.pow_add,← Nat.mul_assoc,hz.down.2]
  refine ⟨r,v / 2 ^ z,t + (z : Int),P,Or.inr ⟨hz.down.1,p1,p2⟩,by omega,?_,?_⟩
  ·rw [e3,e4]; exact hvd
  ·rw [e3,e4,hsum]
 ·have := lt_of_pow2 hz.le hvd
  omega
theorem OkD.odd {s : Bool} {m : Nat} {x : Int} (h : OkD s m x) (h0 : 0 < m) : m % 2 = 1 ∧ -1073741824 ≤ x ∧ x ≤ 1073741824 := by
 rcases h with ⟨h,_⟩ | h
 ·omega
 ·exact h
theorem add_in {s : Bool} {m : Nat} {x : Int} {s' : Bool} {m' : Nat} {x' : Int} (L : Int) (K : Nat) (hA : OkD s m x) (hB : OkD s' m' x') (hL : -1073741824 ≤ L) (hL0 : L ≤ 0) (hK : K ≤ 500000) (hx : L ≤ x) (hx' : L ≤ x') (hk : m * 2 ^ (x - L).toNat < 2 ^ K) (hk' : m' * 2 ^ (x' - L).toNat < 2 ^ K) :
  ∃ q v y,Sums s m x s' m' x' 0 q v y ∧ OkD q v y ∧ L ≤ y ∧ v * 2 ^ (y - L).toNat < 2 ^ (K + 1) ∧ sv q (v * 2 ^ (y - L).toNat) = sv s (m * 2 ^ (x - L).toNat) + sv s' (m' * 2 ^ (x' - L).toNat) := by
 have hup : ∀ {a : Nat},a < 2 ^ K → a < 2 ^ (K + 1) := fun h => by rw [Nat.pow_succ]; omega
 rcases Nat.eq_zero_or_pos m with h0 | h0
 ·refine ⟨s',m',x',fun W A N C A' N' C' g g' _ => ?_,hB,hx',hup hk',by rw [h0,Nat.zero_mul,sv_zero,Int.zero_add]⟩
  obtain rfl := g.zero.2 h0
  refine (Add_left _ A C _ _ _ A' N' C' _ _ W ⟨g,hA⟩ ⟨g',hB⟩).mono ?_
  rintro e w' ⟨⟨A,N,C,rfl,h1⟩,hb⟩
  exact ⟨⟨A,N,C,rfl,h1.num⟩,hb⟩
 rcases Nat.eq_zero_or_pos m' with h1 | h1
 ·refine ⟨s,m,x,fun W A N C A' N' C' g g' _ => ?_,hA,hx,hup hk,by rw [h1,Nat.zero_mul,sv_zero,Int.add_zero]⟩
  obtain rfl := g'.zero.2 h1
  refine (Add_right _ A N C _ _ _ A' C' _ _ W ⟨g,hA⟩ ⟨g',hB⟩ (by have := g.zero; omega)).mono ?_
  rintro e w' ⟨⟨A,N,C,rfl,h1⟩,hb⟩
  exact ⟨⟨A,N,C,rfl,h1.num⟩,hb⟩
 have a1 := hA.odd h0
 have b1 := hB.odd h1
 obtain ⟨t,ht⟩ : ∃ t,min x x' = t := ⟨_,rfl⟩
 obtain ⟨i,hi⟩ : ∃ i : Nat,x - t = (i : Int) := ⟨(x - t).toNat,by omega⟩
 obtain ⟨j,hj⟩ : ∃ j : Nat,x' - t = (j : Int) := ⟨(x' - t).toNat,by omega⟩
 obtain ⟨d,hd⟩ : ∃ d : Nat,t - L = (d : Int) := ⟨(t - L).toNat,by omega⟩
 have e1 : (x - L).toNat = i + d := by omega
 have e2 : (x' - L).toNat = j + d := by omega
 have hd1 : 1 ≤ 2 ^ d := pow_pos2 d
 have ha : m * 2 ^ i < 2 ^ K := by
  rw [e1,Nat.pow_add,← Nat.mul_assoc] at hk
  exact Nat.lt_of_le_of_lt (Nat.le_mul_of_pos_right _ hd1) hk
 have hb : m' * 2 ^ j < 2 ^ K := by
  rw [e2,Nat.pow_add,← Nat.mul_assoc] at hk'
  exact Nat.lt_of_le_of_lt (Nat.le_mul_of_pos_right _ hd1) hk'
 have hov : ¬ Over (m * 2 ^ i + m' * 2 ^ j) := not_over (n := K + 1) (by rw [Nat.pow_succ]; omega) (by omega)
 by_cases hs : s = s'
 ·subst hs
  exact add_in0 (r := s) a1 b1 ht hi hj hd hL hL0 hK hk hk' (fun W A N C A' N' C' g g' => addS_same s A N C _ A' N' C' _ W g g' hov) (by unfold sv; cases s <;> simp <;> omega)
 ·rcases Nat.lt_or_ge (m * 2 ^ i) (m' * 2 ^ j) with hc | hc
  ·refine add_in0 (r := s') (v := m' * 2 ^ j - m * 2 ^ i) a1 b1 ht hi hj hd hL hL0 hK hk hk' (fun W A N C A' N' C' g g' => ?_) (by generalize m * 2 ^ i = u at *; generalize m' * 2 ^ j = u' at *; unfold sv; cases s <;> cases s' <;> simp at hs ⊢ <;> omega)
   cases s <;> cases s'
   ·exact absurd rfl hs
   ·exact addS_lt_f A N C _ A' N' C' _ W g g' hc
   ·exact addS_lt_t A N C _ A' N' C' _ W g g' hc
   ·exact absurd rfl hs
  ·refine add_in0 (r := s) (v := m * 2 ^ i - m' * 2 ^ j) a1 b1 ht hi hj hd hL hL0 hK hk hk' (fun W A N C A' N' C' g g' => ?_) (by generalize m * 2 ^ i = u at *; generalize m' * 2 ^ j = u' at *; unfold sv; cases s <;> cases s' <;> simp at hs ⊢ <;> omega)
   cases s <;> cases s'
   ·exact absurd rfl hs
   ·exact addS_ge_f A N C _ A' N' C' _ W g g' hc
   ·exact addS_ge_t A N C _ A' N' C' _ W g g' hc
   ·exact absurd rfl hs
theorem sv_times (s s' : Bool) (a b : Nat) : sv (s != s') (a * b) = sv s a * sv s' b := by
 unfold sv
 cases s <;> cases s' <;> simp [Int.natCast_mul,Int.neg_mul,Int.mul_neg]
theorem mul_in {s : Bool} {m : Nat} {x : Int} {s' : Bool} {m' : Nat} {x' : Int} (L L' : Int) (K K' : Nat) (hA : OkD s m x) (hB : OkD s' m' x') (hL : -100000 ≤ L) (hL0 : L ≤ 0) (hL' : -100000 ≤ L') (hL0' : L' ≤ 0) (hK : K ≤ 200000) (hK' : K' ≤ 200000) (hx : L ≤ x) (hx' : L' ≤ x') (hk : m * 2 ^ (x - L).toNat < 2 ^ K) (hk' : m' * 2 ^ (x' - L').toNat < 2 ^ K') :
  ∃ q v y,Prods s m x s' m' x' 0 q v y ∧ OkD q v y ∧ L + L' ≤ y ∧ v * 2 ^ (y - (L + L')).toNat < 2 ^ (K + K') ∧ sv q (v * 2 ^ (y - (L + L')).toNat) = sv s (m * 2 ^ (x - L).toNat) * sv s' (m' * 2 ^ (x' - L').toNat) := by
 rcases mul_one hA hB with ⟨h0,P⟩ | ⟨⟨h0,h1⟩,h⟩
 ·refine ⟨_,_,_,P,Or.inl ⟨rfl,rfl,rfl⟩,by omega,by rw [Nat.zero_mul]; exact pow_pos2 _,?_⟩
  rcases h0 with h | h
  ·rw [h,Nat.zero_mul,Nat.zero_mul,sv_zero,sv_zero,Int.zero_mul]
  ·rw [h,Nat.zero_mul,Nat.zero_mul,sv_zero,sv_zero,Int.mul_zero]
 have a1 := hA.odd h0
 have b1 := hB.odd h1
 have hx2 : (0 : Nat) + (x - L).toNat < K := lt_of_pow2 (z := 0) (v := m) (by omega) hk
 have hx2' : (0 : Nat) + (x' - L').toNat < K' := lt_of_pow2 (z := 0) (v := m') (by omega) hk'
 have e3 : (x + x' - (L + L')).toNat = (x - L).toNat + (x' - L').toNat := by omega
 have e4 : m * m' * 2 ^ ((x - L).toNat + (x' - L').toNat) = m * 2 ^ (x - L).toNat * (m' * 2 ^ (x' - L').toNat) := by rw [Nat.pow_add]; ac_rfl
 have hlt : m * m' * 2 ^ ((x - L).toNat + (x' - L').toNat) < 2 ^ (K + K') := by
  rw [e4,Nat.pow_add]
  exact Nat.mul_lt_mul'' hk hk'
 have hm : m * m' < 2 ^ (K + K') := Nat.lt_of_le_of_lt (Nat.le_mul_of_pos_right _ (pow_pos2 _)) hlt
 rcases h with ⟨h,_⟩ | ⟨_,P⟩
 ·rcases h with h | h | h
  ·omega
  ·omega
  ·exact absurd h (not_over hm (by omega))
 ·refine ⟨_,_,_,P,Or.inr ⟨by rw [Nat.mul_mod,a1.1,b1.1],by omega,by omega⟩,by omega,?_,?_⟩
  ·rw [e3]; exact hlt
  ·rw [e3,e4,sv_times]
theorem OkD.one {s : Bool} {m : Nat} {x : Int} {s' : Bool} {m' : Nat} {x' L : Int} (hA : OkD s m x) (hB : OkD s' m' x') (hx : L ≤ x) (hx' : L ≤ x') (h : sv s (m * 2 ^ (x - L).toNat) = sv s' (m' * 2 ^ (x' - L).toNat)) : s = s' ∧ m = m' ∧ x = x' := by
 have p := pow_pos2 (x - L).toNat
 have p' := pow_pos2 (x' - L).toNat
 rcases hA with ⟨h0,h1,h2⟩ | ⟨h0,_⟩ <;> rcases hB with ⟨g0,g1,g2⟩ | ⟨g0,_⟩
 ·exact ⟨by rw [h1,g1],by omega,by omega⟩
 ·have q : 0 < m' * 2 ^ (x' - L).toNat := Nat.mul_pos (by omega) p'
  rw [h0,Nat.zero_mul,sv_zero] at h
  generalize m' * 2 ^ (x' - L).toNat = u' at *
  unfold sv at h; cases s' <;> simp at h <;> omega
 ·have q : 0 < m * 2 ^ (x - L).toNat := Nat.mul_pos (by omega) p
  rw [g0,Nat.zero_mul,sv_zero] at h
  generalize m * 2 ^ (x - L).toNat = u at *
  unfold sv at h; cases s <;> simp at h <;> omega
 ·have q : 0 < m * 2 ^ (x - L).toNat := Nat.mul_pos (by omega) p
  have q' : 0 < m' * 2 ^ (x' - L).toNat := Nat.mul_pos (by omega) p'
  have e : s = s' ∧ m * 2 ^ (x - L).toNat = m' * 2 ^ (x' - L).toNat := by
   generalize m * 2 ^ (x - L).toNat = u at *
   generalize m' * 2 ^ (x' - L).toNat = u' at *
   unfold sv at h; cases s <;> cases s' <;> simp at h ⊢ <;> omega
  have t1 : Tz (m * 2 ^ (x - L).toNat) (x - L).toNat := ⟨m / 2,by rw [Nat.mul_comm]; congr 1; omega⟩
  have t2 : Tz (m' * 2 ^ (x' - L).toNat) (x' - L).toNat := ⟨m' / 2,by rw [Nat.mul_comm]; congr 1; omega⟩
  rw [e.2] at t1
  have e3 := t1.uniq t2
  refine ⟨e.1,?_,by omega⟩
  have e4 := e.2
  rw [e3] at e4
  exact Nat.eq_of_mul_eq_mul_right p' e4
end Go.Proofs.YtecmcjlgknfnlaaDoor
