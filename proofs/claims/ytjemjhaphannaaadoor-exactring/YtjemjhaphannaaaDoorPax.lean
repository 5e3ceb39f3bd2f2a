/- Of what ExactRingRow stands on: ExAlive ExRing0 ExLimit ExAddO ExSum. -/
import Derived.Test.YtjemjhaphannaaaDoorPav
import Derived.Test.YtjemjhaphannaaaDoorPaw
import Derived.Test.YtjemjhaphannaaaDoorPak
import Derived.Test.YtjemjhaphannaaaDoorPat
namespace Go.Proofs.YtjemjhaphannaaaDoor
open Go.RowKit
set_option maxHeartbeats 400000 in
theorem Half4  (w : World)  :
  Calls Tryd.prog 19 #[] w fun e w' => e = .returned (.agg #[.int .i64 5,.int .i64 10]) ∧ Below w.heap.size w w' := by
 go_enter Tryd.func19,Tryd.ntmps19
 go_wp2
 exact bodyPost_ret (v := .agg #[.int .i64 5,.int .i64 10]) (by simp [results,Tryd.results19,go_sem]) rfl ⟨rfl,(Fs.one w _ _).fr⟩
set_option maxHeartbeats 400000 in
theorem Double4  (w : World)  :
  Calls Tryd.prog 43 #[] w fun e w' => e = .returned (.agg #[.int .i64 11,.int .i64 52]) ∧ Below w.heap.size w w' := by
 go_enter Tryd.func43,Tryd.ntmps43
 go_wp2
 exact bodyPost_ret (v := .agg #[.int .i64 11,.int .i64 52]) (by simp [results,Tryd.results43,go_sem]) rfl ⟨rfl,(Fs.one w _ _).fr⟩
set_option maxHeartbeats 400000 in
theorem whole_any (s : Bool) (u : Nat) (x : Int) (hu : u < 18446744073709551616) (w : World)  :
  Calls Tryd.prog 16 #[.bool s,.int .u64 u,.int .i64 x] w fun e w' => (∃ A N C,e = .returned (.agg #[.bool s,.slice A N C,.int .i64 x]) ∧ Mine w' w.heap.size A N C u) ∧ Below w.heap.size w w' := by
 go_enter Tryd.func16,Tryd.ntmps16
 go_wp2_with fail
 refine (of_any u _ hu).mono ?_
 rintro e w1 ⟨⟨A1,N1,C1,rfl,f1⟩,hb1⟩
 have hS := (Fs.one w _ _).kept hb1
 obtain ⟨⟨z1_0_0,z1_0_1,z1_0_2,-⟩,-⟩ := hS.cells
 have F1 := hide f1
 clear f1
 have fz0 := hS.frozen (b := w.heap.size) (cs := #[.bool false,.slice none 0 0,.int .i64 0]) (t := 26) (by simp) 0
 have fz1 := hS.frozen (b := w.heap.size) (cs := #[.bool false,.slice none 0 0,.int .i64 0]) (t := 26) (by simp) 1
 have fz2 := hS.frozen (b := w.heap.size) (cs := #[.bool false,.slice none 0 0,.int .i64 0]) (t := 26) (by simp) 2
 go_wp2
 exact bodyPost_ret (v := .agg #[.bool s,.slice A1 N1 C1,.int .i64 x]) (by simp [results,Tryd.results16,go_sem,z1_0_0,z1_0_1,z1_0_2]) rfl ⟨⟨_,_,_,rfl,((((unhide F1).set (by simp) _).set (by simp) _).set (by simp) _).mono (by simp)⟩,((hS.fr.setCell (by simp <;> omega) _).setCell (by simp <;> omega) _).setCell (by simp <;> omega) _⟩
set_option maxHeartbeats 400000 in
theorem dsame_true (a : Option Addr) (n cap m : Nat) (a' : Option Addr) (n' cap' : Nat) (x : Int) (w : World) (h : Num w a n m) (h' : Num w a' n' m) :
  Calls Tryd.prog 41 #[.agg #[.bool true,.slice a n cap,.int .i64 x],.agg #[.bool true,.slice a' n' cap',.int .i64 x]] w fun e w' => e = .returned (.bool true) ∧ Below w.heap.size w w' := by
 have H := hide h
 have H' := hide h'
 clear h h'
 go_enter Tryd.func41,Tryd.ntmps41
 have HC := hide (same_any a a' n n' cap cap' m m _ (((unhide H).alloc (.cells #[.bool true,.slice a n cap,.int .i64 x] 26)).alloc (.cells #[.bool true,.slice a' n' cap',.int .i64 x] 26)) (((unhide H').alloc _).alloc _))
 rw [decide_eq_true (rfl : m = m)] at HC
 go_wp2_with fail
 refine (unhide HC).mono ?_
 rintro e w1 ⟨rfl,hb1⟩
 have hS := (Fs.two w _ _ _ _).kept hb1
 obtain ⟨⟨z1_0_0,z1_0_1,z1_0_2,-⟩,⟨z1_1_0,z1_1_1,z1_1_2,-⟩,-⟩ := hS.cells
 go_wp2
 go_ret
 exact ⟨rfl,hS.fr⟩
set_option maxHeartbeats 400000 in
theorem dsame_false (a : Option Addr) (n cap m : Nat) (a' : Option Addr) (n' cap' : Nat) (x : Int) (w : World) (h : Num w a n m) (h' : Num w a' n' m) :
  Calls Tryd.prog 41 #[.agg #[.bool false,.slice a n cap,.int .i64 x],.agg #[.bool false,.slice a' n' cap',.int .i64 x]] w fun e w' => e = .returned (.bool true) ∧ Below w.heap.size w w' := by
 have H := hide h
 have H' := hide h'
 clear h h'
 go_enter Tryd.func41,Tryd.ntmps41
 have HC := hide (same_any a a' n n' cap cap' m m _ (((unhide H).alloc (.cells #[.bool false,.slice a n cap,.int .i64 x] 26)).alloc (.cells #[.bool false,.slice a' n' cap',.int .i64 x] 26)) (((unhide H').alloc _).alloc _))
 rw [decide_eq_true (rfl : m = m)] at HC
 go_wp2_with fail
 refine (unhide HC).mono ?_
 rintro e w1 ⟨rfl,hb1⟩
 have hS := (Fs.two w _ _ _ _).kept hb1
 obtain ⟨⟨z1_0_0,z1_0_1,z1_0_2,-⟩,⟨z1_1_0,z1_1_1,z1_1_2,-⟩,-⟩ := hS.cells
 go_wp2
 go_ret
 exact ⟨rfl,hS.fr⟩
theorem dsame_any (s : Bool) (a : Option Addr) (n cap m : Nat) (a' : Option Addr) (n' cap' : Nat) (x : Int) (w : World) (h : Num w a n m) (h' : Num w a' n' m) :
  Calls Tryd.prog 41 #[.agg #[.bool s,.slice a n cap,.int .i64 x],.agg #[.bool s,.slice a' n' cap',.int .i64 x]] w fun e w' => e = .returned (.bool true) ∧ Below w.heap.size w w' := by
 cases s
 ·exact dsame_false a n cap m a' n' cap' x w h h'
 ·exact dsame_true a n cap m a' n' cap' x w h h'
theorem aone_wo : Wo 11 52 1023 1023 2251799813685248 6755399441055744 51 (-52) := ⟨⟨1,by decide⟩,Or.inr ⟨by decide,by decide,by decide⟩,by decide,by decide⟩
theorem av_one (w : World) (hT : Tb w) :
  Calls Tryd.prog 18 #[.agg #[.int .i64 11,.int .i64 52],.int .u64 4609434218613702656] w fun e w' => (∃ A N C,e = .returned (.tuple #[.agg #[.bool false,.slice A N C,.int .i64 (-1)],.int .i64 0]) ∧ Mine w' w.heap.size A N C 3) ∧ Below w.heap.size w w' :=
 Value_wo 11 52 1023 4609434218613702656 1023 2251799813685248 false 6755399441055744 51 (-52) w ⟨by decide,by decide,by decide,by decide⟩ (hide (by decide)) ⟨by decide,by decide,by decide⟩ aone_wo hT
theorem av_half (A : Option Addr) (N C : Nat) (w : World) (h : Num w A N 2047) :
  Calls Tryd.prog 39 #[.agg #[.int .i64 5,.int .i64 10],.agg #[.bool false,.slice A N C,.int .i64 5]] w fun e w' => e = .returned (.tuple #[.int .u64 31743,.bool true,.int .i64 0]) ∧ Below w.heap.size w w' :=
 Bits_wo 5 10 15 31743 30 1023 false 2047 0 5 A N C w ⟨by decide,by decide,by decide,by decide⟩ (hide (by decide)) ⟨by decide,by decide,by decide⟩ ⟨⟨1023,by decide⟩,Or.inr ⟨by decide,by decide,by decide⟩,by decide,by decide⟩ h
theorem small_not {v : Nat} (h : v < 2 ^ 64) : ¬ Over v := not_over h (by decide)
theorem num_pos {w : World} {a : Option Addr} {n m : Nat} (h : Num w a n m) (hm : 0 < m) : 0 < n := by have := h.zero; omega
theorem av_add (A : Option Addr) (N C : Nat) (A' : Option Addr) (N' C' : Nat) (w : World) (h : Num w A N 3) (h' : Num w A' N' 3) (hT : Tb w) :
  Calls Tryd.prog 15 #[.agg #[.bool false,.slice A N C,.int .i64 2],.agg #[.bool true,.slice A' N' C',.int .i64 0]] w fun e w' => (∃ A N C,e = .returned (.tuple #[.agg #[.bool false,.slice A N C,.int .i64 0],.int .i64 0]) ∧ Mine w' w.heap.size A N C 9) ∧ Below w.heap.size w w' :=
 Add_num false A N C 3 2 true A' N' C' 3 0 0 2 0 9 0 false w ⟨h,Or.inr ⟨by decide,by decide,by decide⟩⟩ ⟨h',Or.inr ⟨by decide,by decide,by decide⟩⟩ (num_pos h (by decide)) (num_pos h' (by decide)) hT (by decide) (by decide) (by decide) (by decide) (by decide) (small_not (by decide)) (small_not (by decide)) (by decide) ⟨4,by decide⟩ (by decide) (by decide)
  (hide fun W A N C A' N' C' g g' => addS_ge_f A N C _ A' N' C' _ W g g' (by decide))
theorem av_mul (A : Option Addr) (N C : Nat) (A' : Option Addr) (N' C' : Nat) (w : World) (h : Num w A N 3) (h' : Num w A' N' 5) :
  Calls Tryd.prog 44 #[.agg #[.bool false,.slice A N C,.int .i64 (-1)],.agg #[.bool true,.slice A' N' C',.int .i64 4]] w fun e w' => (∃ A N C,e = .returned (.tuple #[.agg #[.bool true,.slice A N C,.int .i64 3],.int .i64 0]) ∧ Mine w' w.heap.size A N C 15) ∧ Below w.heap.size w w' :=
 Mul_ok_ft A N C 3 (-1) A' N' C' 5 4 w ⟨h,Or.inr ⟨by decide,by decide,by decide⟩⟩ ⟨h',Or.inr ⟨by decide,by decide,by decide⟩⟩ (num_pos h (by decide)) (num_pos h' (by decide)) (by decide) (small_not (by decide))
theorem av_cmp (A : Option Addr) (N C : Nat) (A' : Option Addr) (N' C' : Nat) (w : World) (h : Num w A N 1) (h' : Num w A' N' 5) :
  Calls Tryd.prog 17 #[.agg #[.bool true,.slice A N C,.int .i64 3],.agg #[.bool true,.slice A' N' C',.int .i64 1]] w fun e w' => e = .returned (.tuple #[.int .i64 1,.int .i64 0]) ∧ Below w.heap.size w w' := by
 have := Cmp_any true A N C 1 3 true A' N' C' 5 1 1 2 0 w ⟨h,Or.inr ⟨by decide,by decide,by decide⟩⟩ ⟨h',Or.inr ⟨by decide,by decide,by decide⟩⟩ (by decide) (by decide)
 rw [show cmp3 (sv true (1 * 2 ^ 2)) (sv true (5 * 2 ^ 0)) = 1 from by decide] at this
 exact this
set_option maxRecDepth 20000 in
set_option maxHeartbeats 8000000 in
theorem alive_any  (w : World) (hT : Tb w) :
  Calls Tryd.prog 20 #[] w fun e w' => e = .returned (.bool true) ∧ Below w.heap.size w w' := by
 have HT := hide hT
 clear hT
 go_enter Tryd.func20,Tryd.ntmps20
 go_wp2_with fail
 refine (Double4 _).mono ?_
 rintro e w1 ⟨rfl,hb1⟩
 have hS := (Fs.begin w).kept hb1
 have hZ1 := hS.size
 go_wp2_with fail
 refine (av_one _ ((unhide HT).kept hS.fr)).mono ?_
 rintro e w2 ⟨⟨A1,N1,C1,rfl,f1⟩,hb2⟩
 replace hS := hS.kept hb2
 have G1 := hide (f1.mono hZ1)
 clear f1 hZ1
 replace hS := hS.alloc #[.bool false,.slice A1 N1 C1,.int .i64 (-1)] 26
 replace G1 := hide ((unhide G1).alloc (.cells #[.bool false,.slice A1 N1 C1,.int .i64 (-1)] 26))
 go_wp2_with fail
 refine (Half4 _).mono ?_
 rintro e w3 ⟨rfl,hb3⟩
 replace hS := hS.kept hb3
 obtain ⟨⟨z3_0_0,z3_0_1,z3_0_2,-⟩,-⟩ := hS.cells
 replace G1 := hide ((unhide G1).kept hb3)
 have hZ2 := hS.size
 go_wp2_with fail
 refine (whole_any false 2047 5 (by decide) _).mono ?_
 rintro e w4 ⟨⟨A2,N2,C2,rfl,f2⟩,hb4⟩
 replace hS := hS.kept hb4
 clear z3_0_0 z3_0_1 z3_0_2
 obtain ⟨⟨z4_0_0,z4_0_1,z4_0_2,-⟩,-⟩ := hS.cells
 replace G1 := hide ((unhide G1).kept hb4)
 have G2 := hide (f2.mono hZ2)
 clear f2 hZ2
 go_wp2_with fail
 refine (av_half A2 N2 C2 _ (unhide G2).num).mono ?_
 rintro e w5 ⟨rfl,hb5⟩
 replace hS := hS.kept hb5
 clear z4_0_0 z4_0_1 z4_0_2
 obtain ⟨⟨z5_0_0,z5_0_1,z5_0_2,-⟩,-⟩ := hS.cells
 replace G1 := hide ((unhide G1).kept hb5)
 replace G2 := hide ((unhide G2).kept hb5)
 have hZ3 := hS.size
 go_wp2_with fail
 refine (whole_any false 3 2 (by decide) _).mono ?_
 rintro e w6 ⟨⟨A3,N3,C3,rfl,f3⟩,hb6⟩
 replace hS := hS.kept hb6
 clear z5_0_0 z5_0_1 z5_0_2
 obtain ⟨⟨z6_0_0,z6_0_1,z6_0_2,-⟩,-⟩ := hS.cells
 replace G1 := hide ((unhide G1).kept hb6)
 replace G2 := hide ((unhide G2).kept hb6)
 have G3 := hide (f3.mono hZ3)
 clear f3 hZ3
 have hZ4 := hS.size
 go_wp2_with fail
 refine (whole_any true 3 0 (by decide) _).mono ?_
 rintro e w7 ⟨⟨A4,N4,C4,rfl,f4⟩,hb7⟩
 replace hS := hS.kept hb7
 clear z6_0_0 z6_0_1 z6_0_2
 obtain ⟨⟨z7_0_0,z7_0_1,z7_0_2,-⟩,-⟩ := hS.cells
 replace G1 := hide ((unhide G1).kept hb7)
 replace G2 := hide ((unhide G2).kept hb7)
 replace G3 := hide ((unhide G3).kept hb7)
 have G4 := hide (f4.mono hZ4)
 clear f4 hZ4
 have hZ5 := hS.size
 go_wp2_with fail
 refine (av_add A3 N3 C3 A4 N4 C4 _ (unhide G3).num (unhide G4).num ((unhide HT).kept hS.fr)).mono ?_
 rintro e w8 ⟨⟨A5,N5,C5,rfl,f5⟩,hb8⟩
 replace hS := hS.kept hb8
 clear z7_0_0 z7_0_1 z7_0_2
 obtain ⟨⟨z8_0_0,z8_0_1,z8_0_2,-⟩,-⟩ := hS.cells
 replace G1 := hide ((unhide G1).kept hb8)
 replace G2 := hide ((unhide G2).kept hb8)
 replace G3 := hide ((unhide G3).kept hb8)
 replace G4 := hide ((unhide G4).kept hb8)
 have G5 := hide (f5.mono hZ5)
 clear f5 hZ5
 have hltw8_0 : w2.heap.size < w8.heap.size := block_lt (hS.bx ⟨w2.heap.size,#[.bool false,.slice A1 N1 C1,.int .i64 (-1)],26⟩ (by simp))
 replace hS := hS.alloc #[.bool false,.slice A5 N5 C5,.int .i64 0] 26
 replace G1 := hide ((unhide G1).alloc (.cells #[.bool false,.slice A5 N5 C5,.int .i64 0] 26))
 replace G2 := hide ((unhide G2).alloc (.cells #[.bool false,.slice A5 N5 C5,.int .i64 0] 26))
 replace G3 := hide ((unhide G3).alloc (.cells #[.bool false,.slice A5 N5 C5,.int .i64 0] 26))
 replace G4 := hide ((unhide G4).alloc (.cells #[.bool false,.slice A5 N5 C5,.int .i64 0] 26))
 replace G5 := hide ((unhide G5).alloc (.cells #[.bool false,.slice A5 N5 C5,.int .i64 0] 26))
 have hZ6 := hS.size
 go_wp2_with fail
 refine (whole_any false 3 (-1) (by decide) _).mono ?_
 rintro e w9 ⟨⟨A6,N6,C6,rfl,f6⟩,hb9⟩
 replace hS := hS.kept hb9
 clear z8_0_0 z8_0_1 z8_0_2
 obtain ⟨⟨z9_0_0,z9_0_1,z9_0_2,-⟩,⟨z9_1_0,z9_1_1,z9_1_2,-⟩,-⟩ := hS.cells
 replace G1 := hide ((unhide G1).kept hb9)
 replace G2 := hide ((unhide G2).kept hb9)
 replace G3 := hide ((unhide G3).kept hb9)
 replace G4 := hide ((unhide G4).kept hb9)
 replace G5 := hide ((unhide G5).kept hb9)
 have G6 := hide (f6.mono hZ6)
 clear f6 hZ6
 have hZ7 := hS.size
 go_wp2_with fail
 refine (whole_any true 5 4 (by decide) _).mono ?_
 rintro e w10 ⟨⟨A7,N7,C7,rfl,f7⟩,hb10⟩
 replace hS := hS.kept hb10
 clear z9_0_0 z9_0_1 z9_0_2 z9_1_0 z9_1_1 z9_1_2
 obtain ⟨⟨z10_0_0,z10_0_1,z10_0_2,-⟩,⟨z10_1_0,z10_1_1,z10_1_2,-⟩,-⟩ := hS.cells
 replace G1 := hide ((unhide G1).kept hb10)
 replace G2 := hide ((unhide G2).kept hb10)
 replace G3 := hide ((unhide G3).kept hb10)
 replace G4 := hide ((unhide G4).kept hb10)
 replace G5 := hide ((unhide G5).kept hb10)
 replace G6 := hide ((unhide G6).kept hb10)
 have G7 := hide (f7.mono hZ7)
 clear f7 hZ7
 have hZ8 := hS.size
 go_wp2_with fail
 refine (av_mul A6 N6 C6 A7 N7 C7 _ (unhide G6).num (unhide G7).num).mono ?_
 rintro e w11 ⟨⟨A8,N8,C8,rfl,f8⟩,hb11⟩
 replace hS := hS.kept hb11
 clear z10_0_0 z10_0_1 z10_0_2 z10_1_0 z10_1_1 z10_1_2
 obtain ⟨⟨z11_0_0,z11_0_1,z11_0_2,-⟩,⟨z11_1_0,z11_1_1,z11_1_2,-⟩,-⟩ := hS.cells
 replace G1 := hide ((unhide G1).kept hb11)
 replace G2 := hide ((unhide G2).kept hb11)
 replace G3 := hide ((unhide G3).kept hb11)
 replace G4 := hide ((unhide G4).kept hb11)
 replace G5 := hide ((unhide G5).kept hb11)
 replace G6 := hide ((unhide G6).kept hb11)
 replace G7 := hide ((unhide G7).kept hb11)
 have G8 := hide (f8.mono hZ8)
 clear f8 hZ8
 have hltw11_0 : w8.heap.size < w11.heap.size := block_lt (hS.bx ⟨w8.heap.size,#[.bool false,.slice A5 N5 C5,.int .i64 0],26⟩ (by simp))
 have hltw11_1 : w2.heap.size < w11.heap.size := block_lt (hS.bx ⟨w2.heap.size,#[.bool false,.slice A1 N1 C1,.int .i64 (-1)],26⟩ (by simp))
 replace hS := hS.alloc #[.bool true,.slice A8 N8 C8,.int .i64 3] 26
 replace G1 := hide ((unhide G1).alloc (.cells #[.bool true,.slice A8 N8 C8,.int .i64 3] 26))
 replace G2 := hide ((unhide G2).alloc (.cells #[.bool true,.slice A8 N8 C8,.int .i64 3] 26))
 replace G3 := hide ((unhide G3).alloc (.cells #[.bool true,.slice A8 N8 C8,.int .i64 3] 26))
 replace G4 := hide ((unhide G4).alloc (.cells #[.bool true,.slice A8 N8 C8,.int .i64 3] 26))
 replace G5 := hide ((unhide G5).alloc (.cells #[.bool true,.slice A8 N8 C8,.int .i64 3] 26))
 replace G6 := hide ((unhide G6).alloc (.cells #[.bool true,.slice A8 N8 C8,.int .i64 3] 26))
 replace G7 := hide ((unhide G7).alloc (.cells #[.bool true,.slice A8 N8 C8,.int .i64 3] 26))
 replace G8 := hide ((unhide G8).alloc (.cells #[.bool true,.slice A8 N8 C8,.int .i64 3] 26))
 have hZ9 := hS.size
 go_wp2_with fail
 refine (whole_any true 1 3 (by decide) _).mono ?_
 rintro e w12 ⟨⟨A9,N9,C9,rfl,f9⟩,hb12⟩
 replace hS := hS.kept hb12
 clear z11_0_0 z11_0_1 z11_0_2 z11_1_0 z11_1_1 z11_1_2
 obtain ⟨⟨z12_0_0,z12_0_1,z12_0_2,-⟩,⟨z12_1_0,z12_1_1,z12_1_2,-⟩,⟨z12_2_0,z12_2_1,z12_2_2,-⟩,-⟩ := hS.cells
 replace G1 := hide ((unhide G1).kept hb12)
 replace G2 := hide ((unhide G2).kept hb12)
 replace G3 := hide ((unhide G3).kept hb12)
 replace G4 := hide ((unhide G4).kept hb12)
 replace G5 := hide ((unhide G5).kept hb12)
 replace G6 := hide ((unhide G6).kept hb12)
 replace G7 := hide ((unhide G7).kept hb12)
 replace G8 := hide ((unhide G8).kept hb12)
 have G9 := hide (f9.mono hZ9)
 clear f9 hZ9
 have hZ10 := hS.size
 go_wp2_with fail
 refine (whole_any true 5 1 (by decide) _).mono ?_
 rintro e w13 ⟨⟨A10,N10,C10,rfl,f10⟩,hb13⟩
 replace hS := hS.kept hb13
 clear z12_0_0 z12_0_1 z12_0_2 z12_1_0 z12_1_1 z12_1_2 z12_2_0 z12_2_1 z12_2_2
 obtain ⟨⟨z13_0_0,z13_0_1,z13_0_2,-⟩,⟨z13_1_0,z13_1_1,z13_1_2,-⟩,⟨z13_2_0,z13_2_1,z13_2_2,-⟩,-⟩ := hS.cells
 replace G1 := hide ((unhide G1).kept hb13)
 replace G2 := hide ((unhide G2).kept hb13)
 replace G3 := hide ((unhide G3).kept hb13)
 replace G4 := hide ((unhide G4).kept hb13)
 replace G5 := hide ((unhide G5).kept hb13)
 replace G6 := hide ((unhide G6).kept hb13)
 replace G7 := hide ((unhide G7).kept hb13)
 replace G8 := hide ((unhide G8).kept hb13)
 replace G9 := hide ((unhide G9).kept hb13)
 have G10 := hide (f10.mono hZ10)
 clear f10 hZ10
 go_wp2_with fail
 refine (av_cmp A9 N9 C9 A10 N10 C10 _ (unhide G9).num (unhide G10).num).mono ?_
 rintro e w14 ⟨rfl,hb14⟩
 replace hS := hS.kept hb14
 clear z13_0_0 z13_0_1 z13_0_2 z13_1_0 z13_1_1 z13_1_2 z13_2_0 z13_2_1 z13_2_2
 obtain ⟨⟨z14_0_0,z14_0_1,z14_0_2,-⟩,⟨z14_1_0,z14_1_1,z14_1_2,-⟩,⟨z14_2_0,z14_2_1,z14_2_2,-⟩,-⟩ := hS.cells
 replace G1 := hide ((unhide G1).kept hb14)
 replace G2 := hide ((unhide G2).kept hb14)
 replace G3 := hide ((unhide G3).kept hb14)
 replace G4 := hide ((unhide G4).kept hb14)
 replace G5 := hide ((unhide G5).kept hb14)
 replace G6 := hide ((unhide G6).kept hb14)
 replace G7 := hide ((unhide G7).kept hb14)
 replace G8 := hide ((unhide G8).kept hb14)
 replace G9 := hide ((unhide G9).kept hb14)
 replace G10 := hide ((unhide G10).kept hb14)
 go_wp2_with fail
 have hS3s : w.heap.size ≤ w14.heap.size := hS.size
 have hs9 : ∀ x9 : Nat × (Pk → World → Prop),x9 ∈ ([(20,fun q W => Mine W w.heap.size q.A q.N q.C 3),(32,fun q W => Mine W w.heap.size q.A q.N q.C 9),(37,fun q W => Mine W w.heap.size q.A q.N q.C 15),(45,fun _ W => Mine W w.heap.size A1 N1 C1 3),(46,fun _ W => Mine W w.heap.size A5 N5 C5 9),(47,fun _ W => Mine W w.heap.size A8 N8 C8 15)] : List (Nat × (Pk → World → Prop))) → ∀ q9 : Pk,St w.heap.size (x9.2 q9) := by
  intro x hx q
  simp only [List.mem_cons,List.not_mem_nil,or_false] at hx
  rcases hx with rfl | rfl | rfl | rfl | rfl | rfl
  ·exact st_mine _ _ _ _ _
  ·exact st_mine _ _ _ _ _
  ·exact st_mine _ _ _ _ _
  ·exact st_mine _ _ _ _ _
  ·exact st_mine _ _ _ _ _
  ·exact st_mine _ _ _ _ _
 have h09 : ∀ x9 : Nat × (Pk → World → Prop),x9 ∈ ([(20,fun q W => Mine W w.heap.size q.A q.N q.C 3),(32,fun q W => Mine W w.heap.size q.A q.N q.C 9),(37,fun q W => Mine W w.heap.size q.A q.N q.C 15),(45,fun _ W => Mine W w.heap.size A1 N1 C1 3),(46,fun _ W => Mine W w.heap.size A5 N5 C5 9),(47,fun _ W => Mine W w.heap.size A8 N8 C8 15)] : List (Nat × (Pk → World → Prop))) → 45 ≤ x9.1 → x9.2 ⟨none,0,0⟩ w14 := by
  intro x hx hn9
  simp only [List.mem_cons,List.not_mem_nil,or_false] at hx
  rcases hx with rfl | rfl | rfl | rfl | rfl | rfl
  ·exact absurd hn9 (by simp)
  ·exact absurd hn9 (by simp)
  ·exact absurd hn9 (by simp)
  ·exact unhide G1
  ·exact unhide G5
  ·exact unhide G8
 refine wp_region_any (by kernel_rfl) ?_
 refine wpAny_pick (fun p9 => [some (42,.int .i64 0),some (43,.bool true),some (44,.bool true),some (45,.int .i64 0),some (46,.bool true),some (47,.bool true),some (48,.bool true),some (49,.int .i64 0),some (50,.bool true),some (51,.bool true),some (52,.bool true),some (53,.int .i64 0),some (54,.bool true),some (55,.bool true),some (56,.bool true),some (57,.int .i64 0),some (58,.bool true),some (59,.bool true),some (60,.bool true),some (61,.agg #[.bool false,.slice A1 N1 C1,.int .i64 (-1)]),some (62,.agg #[.bool false,.slice (p9 20).A (p9 20).N (p9 20).C,.int .i64 (-1)]),some (63,.bool true),some (64,.bool true),some (65,.bool true),some (66,.int .u64 31743),some (67,.bool true),some (68,.bool true),some (69,.bool true),some (70,.bool true),some (71,.bool true),some (72,.bool true),some (73,.agg #[.bool false,.slice A5 N5 C5,.int .i64 0]),some (74,.agg #[.bool false,.slice (p9 32).A (p9 32).N (p9 32).C,.int .i64 0]),some (75,.bool true),some (76,.bool true),some (77,.bool true),some (78,.agg #[.bool true,.slice A8 N8 C8,.int .i64 3]),some (79,.agg #[.bool true,.slice (p9 37).A (p9 37).N (p9 37).C,.int .i64 3]),some (80,.bool true),some (81,.bool true),some (82,.bool true),some (83,.int .i64 1),some (84,.bool true),some (85,.bool true),some (0,.bool true)])
  (fun p9 l9 W9 => Pm w w.heap.size [(20,fun q W => Mine W w.heap.size q.A q.N q.C 3),(32,fun q W => Mine W w.heap.size q.A q.N q.C 9),(37,fun q W => Mine W w.heap.size q.A q.N q.C 15),(45,fun _ W => Mine W w.heap.size A1 N1 C1 3),(46,fun _ W => Mine W w.heap.size A5 N5 C5 9),(47,fun _ W => Mine W w.heap.size A8 N8 C8 15)] p9 l9 W9 [⟨w11.heap.size,#[.bool true,.slice A8 N8 C8,.int .i64 3],26⟩,⟨w8.heap.size,#[.bool false,.slice A5 N5 C5,.int .i64 0],26⟩,⟨w2.heap.size,#[.bool false,.slice A1 N1 C1,.int .i64 (-1)],26⟩]) _ _ (fun _ => rfl) (by kernel_rfl) (fun _ => rfl) (fun _ => rfl) ?_ ?_ (fun _ => ⟨none,0,0⟩) (Pm.start2 hS _ _ _ (hS.size) hs9 h09)
 ·intro p9 l9 t9 W9 i9 hD hi9 hl9 hM
  obtain ⟨o9,ho9,hd9⟩ := (mem_ready.1 hi9).2
  have hin9 : i9 < 45 := by
   by_cases h : i9 < 45
   ·exact h
   ·rw [Array.getElem?_eq_none (by rw [hD.len]; simp; omega)] at hl9; cases hl9
  have hcase : i9 = 0 ∨ i9 = 1 ∨ i9 = 2 ∨ i9 = 3 ∨ i9 = 4 ∨ i9 = 5 ∨ i9 = 6 ∨ i9 = 7 ∨ i9 = 8 ∨ i9 = 9 ∨ i9 = 10 ∨ i9 = 11 ∨ i9 = 12 ∨ i9 = 13 ∨ i9 = 14 ∨ i9 = 15 ∨ i9 = 16 ∨ i9 = 17 ∨ i9 = 18 ∨ i9 = 19 ∨ i9 = 20 ∨ i9 = 21 ∨ i9 = 22 ∨ i9 = 23 ∨ i9 = 24 ∨ i9 = 25 ∨ i9 = 26 ∨ i9 = 27 ∨ i9 = 28 ∨ i9 = 29 ∨ i9 = 30 ∨ i9 = 31 ∨ i9 = 32 ∨ i9 = 33 ∨ i9 = 34 ∨ i9 = 35 ∨ i9 = 36 ∨ i9 = 37 ∨ i9 = 38 ∨ i9 = 39 ∨ i9 = 40 ∨ i9 = 41 ∨ i9 = 42 ∨ i9 = 43 ∨ i9 = 44 := by omega
  clear hin9
  rcases hcase with rfl | rfl | rfl | rfl | rfl | rfl | rfl | rfl | rfl | rfl | rfl | rfl | rfl | rfl | rfl | rfl | rfl | rfl | rfl | rfl | rfl | rfl | rfl | rfl | rfl | rfl | rfl | rfl | rfl | rfl | rfl | rfl | rfl | rfl | rfl | rfl | rfl | rfl | rfl | rfl | rfl | rfl | rfl | rfl | rfl
  ·cases ho9
   have r2 := hD.old 2 _ rfl rfl
   clear hD hd9 hi9
   refine wpOp_step rfl (fun K hK => ?_)
   go_simp
   exact hK _ _ ⟨p9,fun _ _ => rfl,rfl,(hM.val rfl)⟩
  ·cases ho9
   have r42 := hD.on 0 42 _ rfl (getD_true (hd9 ⟨0,.data⟩ (by simp) rfl))
   clear hD hd9 hi9
   refine wpOp_step rfl (fun K hK => ?_)
   go_simp
   exact hK _ _ ⟨p9,fun _ _ => rfl,act_eq (by rfl),(hM.val rfl)⟩
  ·cases ho9
   have r43 := hD.on 1 43 _ rfl (getD_true (hd9 ⟨1,.data⟩ (by simp) rfl))
   clear hD hd9 hi9
   refine wpOp_step rfl (fun K hK => ?_)
   go_simp
   exact hK _ _ ⟨p9,fun _ _ => rfl,rfl,(hM.val rfl)⟩
  ·cases ho9
   have r44 := hD.on 2 44 _ rfl (getD_true (hd9 ⟨2,.guard⟩ (by simp) rfl))
   have r5 := hD.old 5 _ rfl rfl
   clear hD hd9 hi9
   refine wpOp_step rfl (fun K hK => ?_)
   go_simp
   exact hK _ _ ⟨p9,fun _ _ => rfl,rfl,(hM.val rfl)⟩
  ·cases ho9
   have r44 := hD.on 2 44 _ rfl (getD_true (hd9 ⟨2,.guard⟩ (by simp) rfl))
   have r45 := hD.on 3 45 _ rfl (getD_true (hd9 ⟨3,.data⟩ (by simp) rfl))
   clear hD hd9 hi9
   refine wpOp_step rfl (fun K hK => ?_)
   go_simp
   exact hK _ _ ⟨p9,fun _ _ => rfl,act_eq (by rfl),(hM.val rfl)⟩
  ·cases ho9
   have r44 := hD.on 2 44 _ rfl (getD_true (hd9 ⟨2,.data⟩ (by simp) rfl))
   have r46 := hD.on 4 46 _ rfl (getD_true (hd9 ⟨4,.data⟩ (by simp) rfl))
   clear hD hd9 hi9
   refine wpOp_step rfl (fun K hK => ?_)
   go_simp
   exact hK _ _ ⟨p9,fun _ _ => rfl,rfl,(hM.val rfl)⟩
  ·cases ho9
   have r47 := hD.on 5 47 _ rfl (getD_true (hd9 ⟨5,.data⟩ (by simp) rfl))
   clear hD hd9 hi9
   refine wpOp_step rfl (fun K hK => ?_)
   go_simp
   exact hK _ _ ⟨p9,fun _ _ => rfl,rfl,(hM.val rfl)⟩
  ·cases ho9
   have r48 := hD.on 6 48 _ rfl (getD_true (hd9 ⟨6,.guard⟩ (by simp) rfl))
   have r7 := hD.old 7 _ rfl rfl
   clear hD hd9 hi9
   refine wpOp_step rfl (fun K hK => ?_)
   go_simp
   exact hK _ _ ⟨p9,fun _ _ => rfl,rfl,(hM.val rfl)⟩
  ·cases ho9
   have r48 := hD.on 6 48 _ rfl (getD_true (hd9 ⟨6,.guard⟩ (by simp) rfl))
   have r49 := hD.on 7 49 _ rfl (getD_true (hd9 ⟨7,.data⟩ (by simp) rfl))
   clear hD hd9 hi9
   refine wpOp_step rfl (fun K hK => ?_)
   go_simp
   exact hK _ _ ⟨p9,fun _ _ => rfl,act_eq (by rfl),(hM.val rfl)⟩
  ·cases ho9
   have r48 := hD.on 6 48 _ rfl (getD_true (hd9 ⟨6,.data⟩ (by simp) rfl))
   have r50 := hD.on 8 50 _ rfl (getD_true (hd9 ⟨8,.data⟩ (by simp) rfl))
   clear hD hd9 hi9
   refine wpOp_step rfl (fun K hK => ?_)
   go_simp
   exact hK _ _ ⟨p9,fun _ _ => rfl,rfl,(hM.val rfl)⟩
  ·cases ho9
   have r51 := hD.on 9 51 _ rfl (getD_true (hd9 ⟨9,.data⟩ (by simp) rfl))
   clear hD hd9 hi9
   refine wpOp_step rfl (fun K hK => ?_)
   go_simp
   exact hK _ _ ⟨p9,fun _ _ => rfl,rfl,(hM.val rfl)⟩
  ·cases ho9
   have r52 := hD.on 10 52 _ rfl (getD_true (hd9 ⟨10,.guard⟩ (by simp) rfl))
   have r9 := hD.old 9 _ rfl rfl
   clear hD hd9 hi9
   refine wpOp_step rfl (fun K hK => ?_)
   go_simp
   exact hK _ _ ⟨p9,fun _ _ => rfl,rfl,(hM.val rfl)⟩
  ·cases ho9
   have r52 := hD.on 10 52 _ rfl (getD_true (hd9 ⟨10,.guard⟩ (by simp) rfl))
   have r53 := hD.on 11 53 _ rfl (getD_true (hd9 ⟨11,.data⟩ (by simp) rfl))
   clear hD hd9 hi9
   refine wpOp_step rfl (fun K hK => ?_)
   go_simp
   exact hK _ _ ⟨p9,fun _ _ => rfl,act_eq (by rfl),(hM.val rfl)⟩
  ·cases ho9
   have r52 := hD.on 10 52 _ rfl (getD_true (hd9 ⟨10,.data⟩ (by simp) rfl))
   have r54 := hD.on 12 54 _ rfl (getD_true (hd9 ⟨12,.data⟩ (by simp) rfl))
   clear hD hd9 hi9
   refine wpOp_step rfl (fun K hK => ?_)
   go_simp
   exact hK _ _ ⟨p9,fun _ _ => rfl,rfl,(hM.val rfl)⟩
  ·cases ho9
   have r55 := hD.on 13 55 _ rfl (getD_true (hd9 ⟨13,.data⟩ (by simp) rfl))
   clear hD hd9 hi9
   refine wpOp_step rfl (fun K hK => ?_)
   go_simp
   exact hK _ _ ⟨p9,fun _ _ => rfl,rfl,(hM.val rfl)⟩
  ·cases ho9
   have r56 := hD.on 14 56 _ rfl (getD_true (hd9 ⟨14,.guard⟩ (by simp) rfl))
   have r11 := hD.old 11 _ rfl rfl
   clear hD hd9 hi9
   refine wpOp_step rfl (fun K hK => ?_)
   go_simp
   exact hK _ _ ⟨p9,fun _ _ => rfl,rfl,(hM.val rfl)⟩
  ·cases ho9
   have r56 := hD.on 14 56 _ rfl (getD_true (hd9 ⟨14,.guard⟩ (by simp) rfl))
   have r57 := hD.on 15 57 _ rfl (getD_true (hd9 ⟨15,.data⟩ (by simp) rfl))
   clear hD hd9 hi9
   refine wpOp_step rfl (fun K hK => ?_)
   go_simp
   exact hK _ _ ⟨p9,fun _ _ => rfl,act_eq (by rfl),(hM.val rfl)⟩
  ·cases ho9
   have r56 := hD.on 14 56 _ rfl (getD_true (hd9 ⟨14,.data⟩ (by simp) rfl))
   have r58 := hD.on 16 58 _ rfl (getD_true (hd9 ⟨16,.data⟩ (by simp) rfl))
   clear hD hd9 hi9
   refine wpOp_step rfl (fun K hK => ?_)
   go_simp
   exact hK _ _ ⟨p9,fun _ _ => rfl,rfl,(hM.val rfl)⟩
  ·cases ho9
   have r59 := hD.on 17 59 _ rfl (getD_true (hd9 ⟨17,.data⟩ (by simp) rfl))
   clear hD hd9 hi9
   refine wpOp_step rfl (fun K hK => ?_)
   go_simp
   exact hK _ _ ⟨p9,fun _ _ => rfl,rfl,(hM.val rfl)⟩
  ·cases ho9
   have r60 := hD.on 18 60 _ rfl (getD_true (hd9 ⟨18,.guard⟩ (by simp) rfl))
   have r1 := hD.old 1 _ rfl rfl
   have hM0 := hM.st
   have c9_0 := hM0.cellAt (b := w2.heap.size) (cs := #[.bool false,.slice A1 N1 C1,.int .i64 (-1)]) (t := 26) (by simp) 0 _ rfl
   have c9_1 := hM0.cellAt (b := w2.heap.size) (cs := #[.bool false,.slice A1 N1 C1,.int .i64 (-1)]) (t := 26) (by simp) 1 _ rfl
   have c9_2 := hM0.cellAt (b := w2.heap.size) (cs := #[.bool false,.slice A1 N1 C1,.int .i64 (-1)]) (t := 26) (by simp) 2 _ rfl
   clear hM0
   clear hD hd9 hi9
   refine wpOp_step rfl (fun K hK => ?_)
   go_simp
   exact hK _ _ ⟨p9,fun _ _ => rfl,rfl,(hM.val rfl)⟩
  ·cases ho9
   have r60 := hD.on 18 60 _ rfl (getD_true (hd9 ⟨18,.chain⟩ (by simp) rfl))
   have ga0 := hM.fx _ (List.mem_of_getElem? (i := 3) rfl) (Or.inr (by rw [hD.len]; simp))
   simp only [] at ga0
   have ga1 := hM.fx _ (List.mem_of_getElem? (i := 4) rfl) (Or.inr (by rw [hD.len]; simp))
   simp only [] at ga1
   have ga2 := hM.fx _ (List.mem_of_getElem? (i := 5) rfl) (Or.inr (by rw [hD.len]; simp))
   simp only [] at ga2
   have HD := hide hD
   clear hD hd9 hi9
   refine wpOp_step rfl (fun K hK => ?_)
   go_simp
   go_wp2_with fail
   refine (whole_any false 3 (-1) (by decide) _).mono ?_
   rintro en w9 ⟨⟨a9,n9,c9,rfl,h9⟩,hb9⟩
   refine hK _ _ ⟨p9.set 20 ⟨a9,n9,c9⟩,?_,rfl,((hM.kept hs9 hb9).pick ⟨a9,n9,c9⟩ ?_)⟩
   ·intro k9 hk9
    clear hM hK
    match k9,hk9 with
    | 0,_ => rfl
    | 1,_ => rfl
    | 2,_ => rfl
    | 3,_ => rfl
    | 4,_ => rfl
    | 5,_ => rfl
    | 6,_ => rfl
    | 7,_ => rfl
    | 8,_ => rfl
    | 9,_ => rfl
    | 10,_ => rfl
    | 11,_ => rfl
    | 12,_ => rfl
    | 13,_ => rfl
    | 14,_ => rfl
    | 15,_ => rfl
    | 16,_ => rfl
    | 17,_ => rfl
    | 18,_ => rfl
    | 19,_ => rfl
    | 20,hk9 => exact absurd (hl9.symm.trans hk9) (by simp)
    | 21,hk9 => exact absurd (hl9.symm.trans (getD_true ((unhide HD).shut 21 _ (hk9) rfl ⟨20,.data⟩ (by simp) rfl))) (by simp)
    | 22,hk9 => exact absurd (hl9.symm.trans (getD_true ((unhide HD).shut 21 _ (getD_true ((unhide HD).shut 22 _ (hk9) rfl ⟨21,.data⟩ (by simp) rfl)) rfl ⟨20,.data⟩ (by simp) rfl))) (by simp)
    | 23,hk9 => exact absurd (hl9.symm.trans (getD_true ((unhide HD).shut 21 _ (getD_true ((unhide HD).shut 23 _ (hk9) rfl ⟨21,.chain⟩ (by simp) rfl)) rfl ⟨20,.data⟩ (by simp) rfl))) (by simp)
    | 24,hk9 => exact absurd (hl9.symm.trans (getD_true ((unhide HD).shut 21 _ (getD_true ((unhide HD).shut 23 _ (getD_true ((unhide HD).shut 24 _ (hk9) rfl ⟨23,.guard⟩ (by simp) rfl)) rfl ⟨21,.chain⟩ (by simp) rfl)) rfl ⟨20,.data⟩ (by simp) rfl))) (by simp)
    | 25,hk9 => exact absurd (hl9.symm.trans (getD_true ((unhide HD).shut 21 _ (getD_true ((unhide HD).shut 23 _ (getD_true ((unhide HD).shut 25 _ (hk9) rfl ⟨23,.guard⟩ (by simp) rfl)) rfl ⟨21,.chain⟩ (by simp) rfl)) rfl ⟨20,.data⟩ (by simp) rfl))) (by simp)
    | 26,hk9 => exact absurd (hl9.symm.trans (getD_true ((unhide HD).shut 21 _ (getD_true ((unhide HD).shut 23 _ (getD_true ((unhide HD).shut 26 _ (hk9) rfl ⟨23,.data⟩ (by simp) rfl)) rfl ⟨21,.chain⟩ (by simp) rfl)) rfl ⟨20,.data⟩ (by simp) rfl))) (by simp)
    | 27,hk9 => exact absurd (hl9.symm.trans (getD_true ((unhide HD).shut 21 _ (getD_true ((unhide HD).shut 23 _ (getD_true ((unhide HD).shut 27 _ (hk9) rfl ⟨23,.chain⟩ (by simp) rfl)) rfl ⟨21,.chain⟩ (by simp) rfl)) rfl ⟨20,.data⟩ (by simp) rfl))) (by simp)
    | 28,hk9 => exact absurd (hl9.symm.trans (getD_true ((unhide HD).shut 21 _ (getD_true ((unhide HD).shut 23 _ (getD_true ((unhide HD).shut 27 _ (getD_true ((unhide HD).shut 28 _ (hk9) rfl ⟨27,.guard⟩ (by simp) rfl)) rfl ⟨23,.chain⟩ (by simp) rfl)) rfl ⟨21,.chain⟩ (by simp) rfl)) rfl ⟨20,.data⟩ (by simp) rfl))) (by simp)
    | 29,hk9 => exact absurd (hl9.symm.trans (getD_true ((unhide HD).shut 21 _ (getD_true ((unhide HD).shut 23 _ (getD_true ((unhide HD).shut 27 _ (getD_true ((unhide HD).shut 29 _ (hk9) rfl ⟨27,.data⟩ (by simp) rfl)) rfl ⟨23,.chain⟩ (by simp) rfl)) rfl ⟨21,.chain⟩ (by simp) rfl)) rfl ⟨20,.data⟩ (by simp) rfl))) (by simp)
    | 30,hk9 => exact absurd (hl9.symm.trans (getD_true ((unhide HD).shut 21 _ (getD_true ((unhide HD).shut 23 _ (getD_true ((unhide HD).shut 27 _ (getD_true ((unhide HD).shut 30 _ (hk9) rfl ⟨27,.chain⟩ (by simp) rfl)) rfl ⟨23,.chain⟩ (by simp) rfl)) rfl ⟨21,.chain⟩ (by simp) rfl)) rfl ⟨20,.data⟩ (by simp) rfl))) (by simp)
    | 31,hk9 => exact absurd (hl9.symm.trans (getD_true ((unhide HD).shut 21 _ (getD_true ((unhide HD).shut 23 _ (getD_true ((unhide HD).shut 27 _ (getD_true ((unhide HD).shut 30 _ (getD_true ((unhide HD).shut 31 _ (hk9) rfl ⟨30,.guard⟩ (by simp) rfl)) rfl ⟨27,.chain⟩ (by simp) rfl)) rfl ⟨23,.chain⟩ (by simp) rfl)) rfl ⟨21,.chain⟩ (by simp) rfl)) rfl ⟨20,.data⟩ (by simp) rfl))) (by simp)
    | 32,hk9 => exact absurd (hl9.symm.trans (getD_true ((unhide HD).shut 21 _ (getD_true ((unhide HD).shut 23 _ (getD_true ((unhide HD).shut 27 _ (getD_true ((unhide HD).shut 30 _ (getD_true ((unhide HD).shut 32 _ (hk9) rfl ⟨30,.chain⟩ (by simp) rfl)) rfl ⟨27,.chain⟩ (by simp) rfl)) rfl ⟨23,.chain⟩ (by simp) rfl)) rfl ⟨21,.chain⟩ (by simp) rfl)) rfl ⟨20,.data⟩ (by simp) rfl))) (by simp)
    | 33,hk9 => exact absurd (hl9.symm.trans (getD_true ((unhide HD).shut 21 _ (getD_true ((unhide HD).shut 23 _ (getD_true ((unhide HD).shut 27 _ (getD_true ((unhide HD).shut 30 _ (getD_true ((unhide HD).shut 33 _ (hk9) rfl ⟨30,.guard⟩ (by simp) rfl)) rfl ⟨27,.chain⟩ (by simp) rfl)) rfl ⟨23,.chain⟩ (by simp) rfl)) rfl ⟨21,.chain⟩ (by simp) rfl)) rfl ⟨20,.data⟩ (by simp) rfl))) (by simp)
    | 34,hk9 => exact absurd (hl9.symm.trans (getD_true ((unhide HD).shut 21 _ (getD_true ((unhide HD).shut 23 _ (getD_true ((unhide HD).shut 27 _ (getD_true ((unhide HD).shut 30 _ (getD_true ((unhide HD).shut 34 _ (hk9) rfl ⟨30,.data⟩ (by simp) rfl)) rfl ⟨27,.chain⟩ (by simp) rfl)) rfl ⟨23,.chain⟩ (by simp) rfl)) rfl ⟨21,.chain⟩ (by simp) rfl)) rfl ⟨20,.data⟩ (by simp) rfl))) (by simp)
    | 35,hk9 => exact absurd (hl9.symm.trans (getD_true ((unhide HD).shut 21 _ (getD_true ((unhide HD).shut 23 _ (getD_true ((unhide HD).shut 27 _ (getD_true ((unhide HD).shut 30 _ (getD_true ((unhide HD).shut 34 _ (getD_true ((unhide HD).shut 35 _ (hk9) rfl ⟨34,.data⟩ (by simp) rfl)) rfl ⟨30,.data⟩ (by simp) rfl)) rfl ⟨27,.chain⟩ (by simp) rfl)) rfl ⟨23,.chain⟩ (by simp) rfl)) rfl ⟨21,.chain⟩ (by simp) rfl)) rfl ⟨20,.data⟩ (by simp) rfl))) (by simp)
    | 36,hk9 => exact absurd (hl9.symm.trans (getD_true ((unhide HD).shut 21 _ (getD_true ((unhide HD).shut 23 _ (getD_true ((unhide HD).shut 27 _ (getD_true ((unhide HD).shut 30 _ (getD_true ((unhide HD).shut 34 _ (getD_true ((unhide HD).shut 35 _ (getD_true ((unhide HD).shut 36 _ (hk9) rfl ⟨35,.guard⟩ (by simp) rfl)) rfl ⟨34,.data⟩ (by simp) rfl)) rfl ⟨30,.data⟩ (by simp) rfl)) rfl ⟨27,.chain⟩ (by simp) rfl)) rfl ⟨23,.chain⟩ (by simp) rfl)) rfl ⟨21,.chain⟩ (by simp) rfl)) rfl ⟨20,.data⟩ (by simp) rfl))) (by simp)
    | 37,hk9 => exact absurd (hl9.symm.trans (getD_true ((unhide HD).shut 21 _ (getD_true ((unhide HD).shut 23 _ (getD_true ((unhide HD).shut 27 _ (getD_true ((unhide HD).shut 30 _ (getD_true ((unhide HD).shut 34 _ (getD_true ((unhide HD).shut 35 _ (getD_true ((unhide HD).shut 37 _ (hk9) rfl ⟨35,.chain⟩ (by simp) rfl)) rfl ⟨34,.data⟩ (by simp) rfl)) rfl ⟨30,.data⟩ (by simp) rfl)) rfl ⟨27,.chain⟩ (by simp) rfl)) rfl ⟨23,.chain⟩ (by simp) rfl)) rfl ⟨21,.chain⟩ (by simp) rfl)) rfl ⟨20,.data⟩ (by simp) rfl))) (by simp)
    | 38,hk9 => exact absurd (hl9.symm.trans (getD_true ((unhide HD).shut 21 _ (getD_true ((unhide HD).shut 23 _ (getD_true ((unhide HD).shut 27 _ (getD_true ((unhide HD).shut 30 _ (getD_true ((unhide HD).shut 34 _ (getD_true ((unhide HD).shut 35 _ (getD_true ((unhide HD).shut 38 _ (hk9) rfl ⟨35,.guard⟩ (by simp) rfl)) rfl ⟨34,.data⟩ (by simp) rfl)) rfl ⟨30,.data⟩ (by simp) rfl)) rfl ⟨27,.chain⟩ (by simp) rfl)) rfl ⟨23,.chain⟩ (by simp) rfl)) rfl ⟨21,.chain⟩ (by simp) rfl)) rfl ⟨20,.data⟩ (by simp) rfl))) (by simp)
    | 39,hk9 => exact absurd (hl9.symm.trans (getD_true ((unhide HD).shut 21 _ (getD_true ((unhide HD).shut 23 _ (getD_true ((unhide HD).shut 27 _ (getD_true ((unhide HD).shut 30 _ (getD_true ((unhide HD).shut 34 _ (getD_true ((unhide HD).shut 35 _ (getD_true ((unhide HD).shut 39 _ (hk9) rfl ⟨35,.data⟩ (by simp) rfl)) rfl ⟨34,.data⟩ (by simp) rfl)) rfl ⟨30,.data⟩ (by simp) rfl)) rfl ⟨27,.chain⟩ (by simp) rfl)) rfl ⟨23,.chain⟩ (by simp) rfl)) rfl ⟨21,.chain⟩ (by simp) rfl)) rfl ⟨20,.data⟩ (by simp) rfl))) (by simp)
    | 40,hk9 => exact absurd (hl9.symm.trans (getD_true ((unhide HD).shut 21 _ (getD_true ((unhide HD).shut 23 _ (getD_true ((unhide HD).shut 27 _ (getD_true ((unhide HD).shut 30 _ (getD_true ((unhide HD).shut 34 _ (getD_true ((unhide HD).shut 35 _ (getD_true ((unhide HD).shut 39 _ (getD_true ((unhide HD).shut 40 _ (hk9) rfl ⟨39,.data⟩ (by simp) rfl)) rfl ⟨35,.data⟩ (by simp) rfl)) rfl ⟨34,.data⟩ (by simp) rfl)) rfl ⟨30,.data⟩ (by simp) rfl)) rfl ⟨27,.chain⟩ (by simp) rfl)) rfl ⟨23,.chain⟩ (by simp) rfl)) rfl ⟨21,.chain⟩ (by simp) rfl)) rfl ⟨20,.data⟩ (by simp) rfl))) (by simp)
    | 41,hk9 => exact absurd (hl9.symm.trans (getD_true ((unhide HD).shut 21 _ (getD_true ((unhide HD).shut 23 _ (getD_true ((unhide HD).shut 27 _ (getD_true ((unhide HD).shut 30 _ (getD_true ((unhide HD).shut 34 _ (getD_true ((unhide HD).shut 35 _ (getD_true ((unhide HD).shut 39 _ (getD_true ((unhide HD).shut 40 _ (getD_true ((unhide HD).shut 41 _ (hk9) rfl ⟨40,.guard⟩ (by simp) rfl)) rfl ⟨39,.data⟩ (by simp) rfl)) rfl ⟨35,.data⟩ (by simp) rfl)) rfl ⟨34,.data⟩ (by simp) rfl)) rfl ⟨30,.data⟩ (by simp) rfl)) rfl ⟨27,.chain⟩ (by simp) rfl)) rfl ⟨23,.chain⟩ (by simp) rfl)) rfl ⟨21,.chain⟩ (by simp) rfl)) rfl ⟨20,.data⟩ (by simp) rfl))) (by simp)
    | 42,hk9 => exact absurd (hl9.symm.trans (getD_true ((unhide HD).shut 21 _ (getD_true ((unhide HD).shut 23 _ (getD_true ((unhide HD).shut 27 _ (getD_true ((unhide HD).shut 30 _ (getD_true ((unhide HD).shut 34 _ (getD_true ((unhide HD).shut 35 _ (getD_true ((unhide HD).shut 39 _ (getD_true ((unhide HD).shut 40 _ (getD_true ((unhide HD).shut 42 _ (hk9) rfl ⟨40,.guard⟩ (by simp) rfl)) rfl ⟨39,.data⟩ (by simp) rfl)) rfl ⟨35,.data⟩ (by simp) rfl)) rfl ⟨34,.data⟩ (by simp) rfl)) rfl ⟨30,.data⟩ (by simp) rfl)) rfl ⟨27,.chain⟩ (by simp) rfl)) rfl ⟨23,.chain⟩ (by simp) rfl)) rfl ⟨21,.chain⟩ (by simp) rfl)) rfl ⟨20,.data⟩ (by simp) rfl))) (by simp)
    | 43,hk9 => exact absurd (hl9.symm.trans (getD_true ((unhide HD).shut 21 _ (getD_true ((unhide HD).shut 23 _ (getD_true ((unhide HD).shut 27 _ (getD_true ((unhide HD).shut 30 _ (getD_true ((unhide HD).shut 34 _ (getD_true ((unhide HD).shut 35 _ (getD_true ((unhide HD).shut 39 _ (getD_true ((unhide HD).shut 40 _ (getD_true ((unhide HD).shut 43 _ (hk9) rfl ⟨40,.data⟩ (by simp) rfl)) rfl ⟨39,.data⟩ (by simp) rfl)) rfl ⟨35,.data⟩ (by simp) rfl)) rfl ⟨34,.data⟩ (by simp) rfl)) rfl ⟨30,.data⟩ (by simp) rfl)) rfl ⟨27,.chain⟩ (by simp) rfl)) rfl ⟨23,.chain⟩ (by simp) rfl)) rfl ⟨21,.chain⟩ (by simp) rfl)) rfl ⟨20,.data⟩ (by simp) rfl))) (by simp)
    | 44,hk9 => exact absurd (hl9.symm.trans (getD_true ((unhide HD).shut 44 _ (hk9) rfl ⟨20,.phase⟩ (by simp) rfl))) (by simp)
    | k9 + 45,_ => rfl
   ·intro x hx he; simp only [List.mem_cons,List.not_mem_nil,or_false] at hx; rcases hx with rfl | rfl | rfl | rfl | rfl | rfl
    ·exact h9.mono hM.bw
    ·exact absurd he (by simp)
    ·exact absurd he (by simp)
    ·exact absurd he (by simp)
    ·exact absurd he (by simp)
    ·exact absurd he (by simp)
  ·cases ho9
   have r60 := hD.on 18 60 _ rfl (getD_true (hd9 ⟨18,.guard⟩ (by simp) rfl))
   have r61 := hD.on 19 61 _ rfl (getD_true (hd9 ⟨19,.data⟩ (by simp) rfl))
   have r62 := hD.on 20 62 _ rfl (getD_true (hd9 ⟨20,.data⟩ (by simp) rfl))
   have ga0 := hM.fx _ (List.mem_of_getElem? (i := 3) rfl) (Or.inr (by rw [hD.len]; simp))
   simp only [] at ga0
   have ga1 := hM.fx _ (List.mem_of_getElem? (i := 4) rfl) (Or.inr (by rw [hD.len]; simp))
   simp only [] at ga1
   have ga2 := hM.fx _ (List.mem_of_getElem? (i := 5) rfl) (Or.inr (by rw [hD.len]; simp))
   simp only [] at ga2
   have g20 := hM.fx _ (List.mem_of_getElem? (i := 0) rfl) (Or.inl (getD_true (hd9 ⟨20,.data⟩ (by simp) rfl)))
   simp only [] at g20
   clear hD hd9 hi9
   refine wpOp_step rfl (fun K hK => ?_)
   go_simp
   go_wp2_with fail
   refine (dsame_any false A1 N1 C1 3 (p9 20).A (p9 20).N (p9 20).C (-1) _ ga0.num g20.num).mono ?_
   rintro en w9 ⟨rfl,hb9⟩
   exact hK _ _ ⟨p9,fun _ _ => rfl,rfl,((hM.kept hs9 hb9).val rfl)⟩
  ·cases ho9
   have r60 := hD.on 18 60 _ rfl (getD_true (hd9 ⟨18,.data⟩ (by simp) rfl))
   have r63 := hD.on 21 63 _ rfl (getD_true (hd9 ⟨21,.data⟩ (by simp) rfl))
   clear hD hd9 hi9
   refine wpOp_step rfl (fun K hK => ?_)
   go_simp
   exact hK _ _ ⟨p9,fun _ _ => rfl,rfl,(hM.val rfl)⟩
  ·cases ho9
   have r64 := hD.on 22 64 _ rfl (getD_true (hd9 ⟨22,.data⟩ (by simp) rfl))
   clear hD hd9 hi9
   refine wpOp_step rfl (fun K hK => ?_)
   go_simp
   exact hK _ _ ⟨p9,fun _ _ => rfl,rfl,(hM.val rfl)⟩
  ·cases ho9
   have r65 := hD.on 23 65 _ rfl (getD_true (hd9 ⟨23,.guard⟩ (by simp) rfl))
   have r3 := hD.old 3 _ rfl rfl
   clear hD hd9 hi9
   refine wpOp_step rfl (fun K hK => ?_)
   go_simp
   exact hK _ _ ⟨p9,fun _ _ => rfl,rfl,(hM.val rfl)⟩
  ·cases ho9
   have r65 := hD.on 23 65 _ rfl (getD_true (hd9 ⟨23,.guard⟩ (by simp) rfl))
   have r66 := hD.on 24 66 _ rfl (getD_true (hd9 ⟨24,.data⟩ (by simp) rfl))
   clear hD hd9 hi9
   refine wpOp_step rfl (fun K hK => ?_)
   go_simp
   exact hK _ _ ⟨p9,fun _ _ => rfl,act_eq (by rfl),(hM.val rfl)⟩
  ·cases ho9
   have r65 := hD.on 23 65 _ rfl (getD_true (hd9 ⟨23,.data⟩ (by simp) rfl))
   have r67 := hD.on 25 67 _ rfl (getD_true (hd9 ⟨25,.data⟩ (by simp) rfl))
   clear hD hd9 hi9
   refine wpOp_step rfl (fun K hK => ?_)
   go_simp
   exact hK _ _ ⟨p9,fun _ _ => rfl,rfl,(hM.val rfl)⟩
  ·cases ho9
   have r68 := hD.on 26 68 _ rfl (getD_true (hd9 ⟨26,.data⟩ (by simp) rfl))
   clear hD hd9 hi9
   refine wpOp_step rfl (fun K hK => ?_)
   go_simp
   exact hK _ _ ⟨p9,fun _ _ => rfl,rfl,(hM.val rfl)⟩
  ·cases ho9
   have r69 := hD.on 27 69 _ rfl (getD_true (hd9 ⟨27,.guard⟩ (by simp) rfl))
   have r4 := hD.old 4 _ rfl rfl
   clear hD hd9 hi9
   refine wpOp_step rfl (fun K hK => ?_)
   go_simp
   exact hK _ _ ⟨p9,fun _ _ => rfl,rfl,(hM.val rfl)⟩
  ·cases ho9
   have r69 := hD.on 27 69 _ rfl (getD_true (hd9 ⟨27,.data⟩ (by simp) rfl))
   have r70 := hD.on 28 70 _ rfl (getD_true (hd9 ⟨28,.data⟩ (by simp) rfl))
   clear hD hd9 hi9
   refine wpOp_step rfl (fun K hK => ?_)
   go_simp
   exact hK _ _ ⟨p9,fun _ _ => rfl,rfl,(hM.val rfl)⟩
  ·cases ho9
   have r71 := hD.on 29 71 _ rfl (getD_true (hd9 ⟨29,.data⟩ (by simp) rfl))
   clear hD hd9 hi9
   refine wpOp_step rfl (fun K hK => ?_)
   go_simp
   exact hK _ _ ⟨p9,fun _ _ => rfl,rfl,(hM.val rfl)⟩
  ·cases ho9
   have r72 := hD.on 30 72 _ rfl (getD_true (hd9 ⟨30,.guard⟩ (by simp) rfl))
   have r6 := hD.old 6 _ rfl rfl
   have hM0 := hM.st
   have c9_0 := hM0.cellAt (b := w8.heap.size) (cs := #[.bool false,.slice A5 N5 C5,.int .i64 0]) (t := 26) (by simp) 0 _ rfl
   have c9_1 := hM0.cellAt (b := w8.heap.size) (cs := #[.bool false,.slice A5 N5 C5,.int .i64 0]) (t := 26) (by simp) 1 _ rfl
   have c9_2 := hM0.cellAt (b := w8.heap.size) (cs := #[.bool false,.slice A5 N5 C5,.int .i64 0]) (t := 26) (by simp) 2 _ rfl
   clear hM0
   clear hD hd9 hi9
   refine wpOp_step rfl (fun K hK => ?_)
   go_simp
   exact hK _ _ ⟨p9,fun _ _ => rfl,rfl,(hM.val rfl)⟩
  ·cases ho9
   have r72 := hD.on 30 72 _ rfl (getD_true (hd9 ⟨30,.chain⟩ (by simp) rfl))
   have ga0 := hM.fx _ (List.mem_of_getElem? (i := 3) rfl) (Or.inr (by rw [hD.len]; simp))
   simp only [] at ga0
   have ga1 := hM.fx _ (List.mem_of_getElem? (i := 4) rfl) (Or.inr (by rw [hD.len]; simp))
   simp only [] at ga1
   have ga2 := hM.fx _ (List.mem_of_getElem? (i := 5) rfl) (Or.inr (by rw [hD.len]; simp))
   simp only [] at ga2
   have g20 := hM.fx _ (List.mem_of_getElem? (i := 0) rfl) (Or.inl (getD_true (hD.shut 21 _ (getD_true (hD.shut 22 _ (getD_true (hD.shut 23 _ (getD_true (hD.shut 26 _ (getD_true (hD.shut 27 _ (getD_true (hD.shut 29 _ (getD_true (hD.shut 30 _ (getD_true (hd9 ⟨30,.chain⟩ (by simp) rfl)) rfl ⟨29,.data⟩ (by simp) rfl)) rfl ⟨27,.data⟩ (by simp) rfl)) rfl ⟨26,.data⟩ (by simp) rfl)) rfl ⟨23,.data⟩ (by simp) rfl)) rfl ⟨22,.data⟩ (by simp) rfl)) rfl ⟨21,.data⟩ (by simp) rfl)) rfl ⟨20,.data⟩ (by simp) rfl)))
   simp only [] at g20
   have HD := hide hD
   clear hD hd9 hi9
   refine wpOp_step rfl (fun K hK => ?_)
   go_simp
   go_wp2_with fail
   refine (whole_any false 9 0 (by decide) _).mono ?_
   rintro en w9 ⟨⟨a9,n9,c9,rfl,h9⟩,hb9⟩
   refine hK _ _ ⟨p9.set 32 ⟨a9,n9,c9⟩,?_,rfl,((hM.kept hs9 hb9).pick ⟨a9,n9,c9⟩ ?_)⟩
   ·intro k9 hk9
    clear hM hK
    match k9,hk9 with
    | 0,_ => rfl
    | 1,_ => rfl
    | 2,_ => rfl
    | 3,_ => rfl
    | 4,_ => rfl
    | 5,_ => rfl
    | 6,_ => rfl
    | 7,_ => rfl
    | 8,_ => rfl
    | 9,_ => rfl
    | 10,_ => rfl
    | 11,_ => rfl
    | 12,_ => rfl
    | 13,_ => rfl
    | 14,_ => rfl
    | 15,_ => rfl
    | 16,_ => rfl
    | 17,_ => rfl
    | 18,_ => rfl
    | 19,_ => rfl
    | 20,_ => rfl
    | 21,_ => rfl
    | 22,_ => rfl
    | 23,_ => rfl
    | 24,_ => rfl
    | 25,_ => rfl
    | 26,_ => rfl
    | 27,_ => rfl
    | 28,_ => rfl
    | 29,_ => rfl
    | 30,_ => rfl
    | 31,_ => rfl
    | 32,hk9 => exact absurd (hl9.symm.trans hk9) (by simp)
    | 33,hk9 => exact absurd (hl9.symm.trans (getD_true ((unhide HD).shut 33 _ (hk9) rfl ⟨32,.data⟩ (by simp) rfl))) (by simp)
    | 34,hk9 => exact absurd (hl9.symm.trans (getD_true ((unhide HD).shut 33 _ (getD_true ((unhide HD).shut 34 _ (hk9) rfl ⟨33,.data⟩ (by simp) rfl)) rfl ⟨32,.data⟩ (by simp) rfl))) (by simp)
    | 35,hk9 => exact absurd (hl9.symm.trans (getD_true ((unhide HD).shut 33 _ (getD_true ((unhide HD).shut 35 _ (hk9) rfl ⟨33,.chain⟩ (by simp) rfl)) rfl ⟨32,.data⟩ (by simp) rfl))) (by simp)
    | 36,hk9 => exact absurd (hl9.symm.trans (getD_true ((unhide HD).shut 33 _ (getD_true ((unhide HD).shut 35 _ (getD_true ((unhide HD).shut 36 _ (hk9) rfl ⟨35,.guard⟩ (by simp) rfl)) rfl ⟨33,.chain⟩ (by simp) rfl)) rfl ⟨32,.data⟩ (by simp) rfl))) (by simp)
    | 37,hk9 => exact absurd (hl9.symm.trans (getD_true ((unhide HD).shut 33 _ (getD_true ((unhide HD).shut 35 _ (getD_true ((unhide HD).shut 37 _ (hk9) rfl ⟨35,.chain⟩ (by simp) rfl)) rfl ⟨33,.chain⟩ (by simp) rfl)) rfl ⟨32,.data⟩ (by simp) rfl))) (by simp)
    | 38,hk9 => exact absurd (hl9.symm.trans (getD_true ((unhide HD).shut 33 _ (getD_true ((unhide HD).shut 35 _ (getD_true ((unhide HD).shut 38 _ (hk9) rfl ⟨35,.guard⟩ (by simp) rfl)) rfl ⟨33,.chain⟩ (by simp) rfl)) rfl ⟨32,.data⟩ (by simp) rfl))) (by simp)
    | 39,hk9 => exact absurd (hl9.symm.trans (getD_true ((unhide HD).shut 33 _ (getD_true ((unhide HD).shut 35 _ (getD_true ((unhide HD).shut 39 _ (hk9) rfl ⟨35,.data⟩ (by simp) rfl)) rfl ⟨33,.chain⟩ (by simp) rfl)) rfl ⟨32,.data⟩ (by simp) rfl))) (by simp)
    | 40,hk9 => exact absurd (hl9.symm.trans (getD_true ((unhide HD).shut 33 _ (getD_true ((unhide HD).shut 35 _ (getD_true ((unhide HD).shut 39 _ (getD_true ((unhide HD).shut 40 _ (hk9) rfl ⟨39,.data⟩ (by simp) rfl)) rfl ⟨35,.data⟩ (by simp) rfl)) rfl ⟨33,.chain⟩ (by simp) rfl)) rfl ⟨32,.data⟩ (by simp) rfl))) (by simp)
    | 41,hk9 => exact absurd (hl9.symm.trans (getD_true ((unhide HD).shut 33 _ (getD_true ((unhide HD).shut 35 _ (getD_true ((unhide HD).shut 39 _ (getD_true ((unhide HD).shut 40 _ (getD_true ((unhide HD).shut 41 _ (hk9) rfl ⟨40,.guard⟩ (by simp) rfl)) rfl ⟨39,.data⟩ (by simp) rfl)) rfl ⟨35,.data⟩ (by simp) rfl)) rfl ⟨33,.chain⟩ (by simp) rfl)) rfl ⟨32,.data⟩ (by simp) rfl))) (by simp)
    | 42,hk9 => exact absurd (hl9.symm.trans (getD_true ((unhide HD).shut 33 _ (getD_true ((unhide HD).shut 35 _ (getD_true ((unhide HD).shut 39 _ (getD_true ((unhide HD).shut 40 _ (getD_true ((unhide HD).shut 42 _ (hk9) rfl ⟨40,.guard⟩ (by simp) rfl)) rfl ⟨39,.data⟩ (by simp) rfl)) rfl ⟨35,.data⟩ (by simp) rfl)) rfl ⟨33,.chain⟩ (by simp) rfl)) rfl ⟨32,.data⟩ (by simp) rfl))) (by simp)
    | 43,hk9 => exact absurd (hl9.symm.trans (getD_true ((unhide HD).shut 33 _ (getD_true ((unhide HD).shut 35 _ (getD_true ((unhide HD).shut 39 _ (getD_true ((unhide HD).shut 40 _ (getD_true ((unhide HD).shut 43 _ (hk9) rfl ⟨40,.data⟩ (by simp) rfl)) rfl ⟨39,.data⟩ (by simp) rfl)) rfl ⟨35,.data⟩ (by simp) rfl)) rfl ⟨33,.chain⟩ (by simp) rfl)) rfl ⟨32,.data⟩ (by simp) rfl))) (by simp)
    | 44,hk9 => exact absurd (hl9.symm.trans (getD_true ((unhide HD).shut 44 _ (hk9) rfl ⟨32,.phase⟩ (by simp) rfl))) (by simp)
    | k9 + 45,_ => rfl
   ·intro x hx he; simp only [List.mem_cons,List.not_mem_nil,or_false] at hx; rcases hx with rfl | rfl | rfl | rfl | rfl | rfl
    ·exact absurd he (by simp)
    ·exact h9.mono hM.bw
    ·exact absurd he (by simp)
    ·exact absurd he (by simp)
    ·exact absurd he (by simp)
    ·exact absurd he (by simp)
  ·cases ho9
   have r72 := hD.on 30 72 _ rfl (getD_true (hd9 ⟨30,.guard⟩ (by simp) rfl))
   have r73 := hD.on 31 73 _ rfl (getD_true (hd9 ⟨31,.data⟩ (by simp) rfl))
   have r74 := hD.on 32 74 _ rfl (getD_true (hd9 ⟨32,.data⟩ (by simp) rfl))
   have ga0 := hM.fx _ (List.mem_of_getElem? (i := 3) rfl) (Or.inr (by rw [hD.len]; simp))
   simp only [] at ga0
   have ga1 := hM.fx _ (List.mem_of_getElem? (i := 4) rfl) (Or.inr (by rw [hD.len]; simp))
   simp only [] at ga1
   have ga2 := hM.fx _ (List.mem_of_getElem? (i := 5) rfl) (Or.inr (by rw [hD.len]; simp))
   simp only [] at ga2
   have g20 := hM.fx _ (List.mem_of_getElem? (i := 0) rfl) (Or.inl (getD_true (hD.shut 21 _ (getD_true (hD.shut 22 _ (getD_true (hD.shut 23 _ (getD_true (hD.shut 26 _ (getD_true (hD.shut 27 _ (getD_true (hD.shut 29 _ (getD_true (hD.shut 30 _ (getD_true (hD.shut 31 _ (getD_true (hd9 ⟨31,.data⟩ (by simp) rfl)) rfl ⟨30,.guard⟩ (by simp) rfl)) rfl ⟨29,.data⟩ (by simp) rfl)) rfl ⟨27,.data⟩ (by simp) rfl)) rfl ⟨26,.data⟩ (by simp) rfl)) rfl ⟨23,.data⟩ (by simp) rfl)) rfl ⟨22,.data⟩ (by simp) rfl)) rfl ⟨21,.data⟩ (by simp) rfl)) rfl ⟨20,.data⟩ (by simp) rfl)))
   simp only [] at g20
   have g32 := hM.fx _ (List.mem_of_getElem? (i := 1) rfl) (Or.inl (getD_true (hd9 ⟨32,.data⟩ (by simp) rfl)))
   simp only [] at g32
   clear hD hd9 hi9
   refine wpOp_step rfl (fun K hK => ?_)
   go_simp
   go_wp2_with fail
   refine (dsame_any false A5 N5 C5 9 (p9 32).A (p9 32).N (p9 32).C 0 _ ga1.num g32.num).mono ?_
   rintro en w9 ⟨rfl,hb9⟩
   exact hK _ _ ⟨p9,fun _ _ => rfl,rfl,((hM.kept hs9 hb9).val rfl)⟩
  ·cases ho9
   have r72 := hD.on 30 72 _ rfl (getD_true (hd9 ⟨30,.data⟩ (by simp) rfl))
   have r75 := hD.on 33 75 _ rfl (getD_true (hd9 ⟨33,.data⟩ (by simp) rfl))
   clear hD hd9 hi9
   refine wpOp_step rfl (fun K hK => ?_)
   go_simp
   exact hK _ _ ⟨p9,fun _ _ => rfl,rfl,(hM.val rfl)⟩
  ·cases ho9
   have r76 := hD.on 34 76 _ rfl (getD_true (hd9 ⟨34,.data⟩ (by simp) rfl))
   clear hD hd9 hi9
   refine wpOp_step rfl (fun K hK => ?_)
   go_simp
   exact hK _ _ ⟨p9,fun _ _ => rfl,rfl,(hM.val rfl)⟩
  ·cases ho9
   have r77 := hD.on 35 77 _ rfl (getD_true (hd9 ⟨35,.guard⟩ (by simp) rfl))
   have r8 := hD.old 8 _ rfl rfl
   have hM0 := hM.st
   have c9_0 := hM0.cellAt (b := w11.heap.size) (cs := #[.bool true,.slice A8 N8 C8,.int .i64 3]) (t := 26) (by simp) 0 _ rfl
   have c9_1 := hM0.cellAt (b := w11.heap.size) (cs := #[.bool true,.slice A8 N8 C8,.int .i64 3]) (t := 26) (by simp) 1 _ rfl
   have c9_2 := hM0.cellAt (b := w11.heap.size) (cs := #[.bool true,.slice A8 N8 C8,.int .i64 3]) (t := 26) (by simp) 2 _ rfl
   clear hM0
   clear hD hd9 hi9
   refine wpOp_step rfl (fun K hK => ?_)
   go_simp
   exact hK _ _ ⟨p9,fun _ _ => rfl,rfl,(hM.val rfl)⟩
  ·cases ho9
   have r77 := hD.on 35 77 _ rfl (getD_true (hd9 ⟨35,.chain⟩ (by simp) rfl))
   have ga0 := hM.fx _ (List.mem_of_getElem? (i := 3) rfl) (Or.inr (by rw [hD.len]; simp))
   simp only [] at ga0
   have ga1 := hM.fx _ (List.mem_of_getElem? (i := 4) rfl) (Or.inr (by rw [hD.len]; simp))
   simp only [] at ga1
   have ga2 := hM.fx _ (List.mem_of_getElem? (i := 5) rfl) (Or.inr (by rw [hD.len]; simp))
   simp only [] at ga2
   have g20 := hM.fx _ (List.mem_of_getElem? (i := 0) rfl) (Or.inl (getD_true (hD.shut 21 _ (getD_true (hD.shut 22 _ (getD_true (hD.shut 23 _ (getD_true (hD.shut 26 _ (getD_true (hD.shut 27 _ (getD_true (hD.shut 29 _ (getD_true (hD.shut 30 _ (getD_true (hD.shut 34 _ (getD_true (hD.shut 35 _ (getD_true (hd9 ⟨35,.chain⟩ (by simp) rfl)) rfl ⟨34,.data⟩ (by simp) rfl)) rfl ⟨30,.data⟩ (by simp) rfl)) rfl ⟨29,.data⟩ (by simp) rfl)) rfl ⟨27,.data⟩ (by simp) rfl)) rfl ⟨26,.data⟩ (by simp) rfl)) rfl ⟨23,.data⟩ (by simp) rfl)) rfl ⟨22,.data⟩ (by simp) rfl)) rfl ⟨21,.data⟩ (by simp) rfl)) rfl ⟨20,.data⟩ (by simp) rfl)))
   simp only [] at g20
   have g32 := hM.fx _ (List.mem_of_getElem? (i := 1) rfl) (Or.inl (getD_true (hD.shut 33 _ (getD_true (hD.shut 34 _ (getD_true (hD.shut 35 _ (getD_true (hd9 ⟨35,.chain⟩ (by simp) rfl)) rfl ⟨34,.data⟩ (by simp) rfl)) rfl ⟨33,.data⟩ (by simp) rfl)) rfl ⟨32,.data⟩ (by simp) rfl)))
   simp only [] at g32
   have HD := hide hD
   clear hD hd9 hi9
   refine wpOp_step rfl (fun K hK => ?_)
   go_simp
   go_wp2_with fail
   refine (whole_any true 15 3 (by decide) _).mono ?_
   rintro en w9 ⟨⟨a9,n9,c9,rfl,h9⟩,hb9⟩
   refine hK _ _ ⟨p9.set 37 ⟨a9,n9,c9⟩,?_,rfl,((hM.kept hs9 hb9).pick ⟨a9,n9,c9⟩ ?_)⟩
   ·intro k9 hk9
    clear hM hK
    match k9,hk9 with
    | 0,_ => rfl
    | 1,_ => rfl
    | 2,_ => rfl
    | 3,_ => rfl
    | 4,_ => rfl
    | 5,_ => rfl
    | 6,_ => rfl
    | 7,_ => rfl
    | 8,_ => rfl
    | 9,_ => rfl
    | 10,_ => rfl
    | 11,_ => rfl
    | 12,_ => rfl
    | 13,_ => rfl
    | 14,_ => rfl
    | 15,_ => rfl
    | 16,_ => rfl
    | 17,_ => rfl
    | 18,_ => rfl
    | 19,_ => rfl
    | 20,_ => rfl
    | 21,_ => rfl
    | 22,_ => rfl
    | 23,_ => rfl
    | 24,_ => rfl
    | 25,_ => rfl
    | 26,_ => rfl
    | 27,_ => rfl
    | 28,_ => rfl
    | 29,_ => rfl
    | 30,_ => rfl
    | 31,_ => rfl
    | 32,_ => rfl
    | 33,_ => rfl
    | 34,_ => rfl
    | 35,_ => rfl
    | 36,_ => rfl
    | 37,hk9 => exact absurd (hl9.symm.trans hk9) (by simp)
    | 38,hk9 => exact absurd (hl9.symm.trans (getD_true ((unhide HD).shut 38 _ (hk9) rfl ⟨37,.data⟩ (by simp) rfl))) (by simp)
    | 39,hk9 => exact absurd (hl9.symm.trans (getD_true ((unhide HD).shut 38 _ (getD_true ((unhide HD).shut 39 _ (hk9) rfl ⟨38,.data⟩ (by simp) rfl)) rfl ⟨37,.data⟩ (by simp) rfl))) (by simp)
    | 40,hk9 => exact absurd (hl9.symm.trans (getD_true ((unhide HD).shut 38 _ (getD_true ((unhide HD).shut 40 _ (hk9) rfl ⟨38,.chain⟩ (by simp) rfl)) rfl ⟨37,.data⟩ (by simp) rfl))) (by simp)
    | 41,hk9 => exact absurd (hl9.symm.trans (getD_true ((unhide HD).shut 38 _ (getD_true ((unhide HD).shut 40 _ (getD_true ((unhide HD).shut 41 _ (hk9) rfl ⟨40,.guard⟩ (by simp) rfl)) rfl ⟨38,.chain⟩ (by simp) rfl)) rfl ⟨37,.data⟩ (by simp) rfl))) (by simp)
    | 42,hk9 => exact absurd (hl9.symm.trans (getD_true ((unhide HD).shut 38 _ (getD_true ((unhide HD).shut 40 _ (getD_true ((unhide HD).shut 42 _ (hk9) rfl ⟨40,.guard⟩ (by simp) rfl)) rfl ⟨38,.chain⟩ (by simp) rfl)) rfl ⟨37,.data⟩ (by simp) rfl))) (by simp)
    | 43,hk9 => exact absurd (hl9.symm.trans (getD_true ((unhide HD).shut 38 _ (getD_true ((unhide HD).shut 40 _ (getD_true ((unhide HD).shut 43 _ (hk9) rfl ⟨40,.data⟩ (by simp) rfl)) rfl ⟨38,.chain⟩ (by simp) rfl)) rfl ⟨37,.data⟩ (by simp) rfl))) (by simp)
    | 44,hk9 => exact absurd (hl9.symm.trans (getD_true ((unhide HD).shut 44 _ (hk9) rfl ⟨37,.phase⟩ (by simp) rfl))) (by simp)
    | k9 + 45,_ => rfl
   ·intro x hx he; simp only [List.mem_cons,List.not_mem_nil,or_false] at hx; rcases hx with rfl | rfl | rfl | rfl | rfl | rfl
    ·exact absurd he (by simp)
    ·exact absurd he (by simp)
    ·exact h9.mono hM.bw
    ·exact absurd he (by simp)
    ·exact absurd he (by simp)
    ·exact absurd he (by simp)
  ·cases ho9
   have r77 := hD.on 35 77 _ rfl (getD_true (hd9 ⟨35,.guard⟩ (by simp) rfl))
   have r78 := hD.on 36 78 _ rfl (getD_true (hd9 ⟨36,.data⟩ (by simp) rfl))
   have r79 := hD.on 37 79 _ rfl (getD_true (hd9 ⟨37,.data⟩ (by simp) rfl))
   have ga0 := hM.fx _ (List.mem_of_getElem? (i := 3) rfl) (Or.inr (by rw [hD.len]; simp))
   simp only [] at ga0
   have ga1 := hM.fx _ (List.mem_of_getElem? (i := 4) rfl) (Or.inr (by rw [hD.len]; simp))
   simp only [] at ga1
   have ga2 := hM.fx _ (List.mem_of_getElem? (i := 5) rfl) (Or.inr (by rw [hD.len]; simp))
   simp only [] at ga2
   have g20 := hM.fx _ (List.mem_of_getElem? (i := 0) rfl) (Or.inl (getD_true (hD.shut 21 _ (getD_true (hD.shut 22 _ (getD_true (hD.shut 23 _ (getD_true (hD.shut 26 _ (getD_true (hD.shut 27 _ (getD_true (hD.shut 29 _ (getD_true (hD.shut 30 _ (getD_true (hD.shut 34 _ (getD_true (hD.shut 35 _ (getD_true (hD.shut 36 _ (getD_true (hd9 ⟨36,.data⟩ (by simp) rfl)) rfl ⟨35,.guard⟩ (by simp) rfl)) rfl ⟨34,.data⟩ (by simp) rfl)) rfl ⟨30,.data⟩ (by simp) rfl)) rfl ⟨29,.data⟩ (by simp) rfl)) rfl ⟨27,.data⟩ (by simp) rfl)) rfl ⟨26,.data⟩ (by simp) rfl)) rfl ⟨23,.data⟩ (by simp) rfl)) rfl ⟨22,.data⟩ (by simp) rfl)) rfl ⟨21,.data⟩ (by simp) rfl)) rfl ⟨20,.data⟩ (by simp) rfl)))
   simp only [] at g20
   have g32 := hM.fx _ (List.mem_of_getElem? (i := 1) rfl) (Or.inl (getD_true (hD.shut 33 _ (getD_true (hD.shut 34 _ (getD_true (hD.shut 35 _ (getD_true (hD.shut 36 _ (getD_true (hd9 ⟨36,.data⟩ (by simp) rfl)) rfl ⟨35,.guard⟩ (by simp) rfl)) rfl ⟨34,.data⟩ (by simp) rfl)) rfl ⟨33,.data⟩ (by simp) rfl)) rfl ⟨32,.data⟩ (by simp) rfl)))
   simp only [] at g32
   have g37 := hM.fx _ (List.mem_of_getElem? (i := 2) rfl) (Or.inl (getD_true (hd9 ⟨37,.data⟩ (by simp) rfl)))
   simp only [] at g37
   clear hD hd9 hi9
   refine wpOp_step rfl (fun K hK => ?_)
   go_simp
   go_wp2_with fail
   refine (dsame_any true A8 N8 C8 15 (p9 37).A (p9 37).N (p9 37).C 3 _ ga2.num g37.num).mono ?_
   rintro en w9 ⟨rfl,hb9⟩
   exact hK _ _ ⟨p9,fun _ _ => rfl,rfl,((hM.kept hs9 hb9).val rfl)⟩
  ·cases ho9
   have r77 := hD.on 35 77 _ rfl (getD_true (hd9 ⟨35,.data⟩ (by simp) rfl))
   have r80 := hD.on 38 80 _ rfl (getD_true (hd9 ⟨38,.data⟩ (by simp) rfl))
   clear hD hd9 hi9
   refine wpOp_step rfl (fun K hK => ?_)
   go_simp
   exact hK _ _ ⟨p9,fun _ _ => rfl,rfl,(hM.val rfl)⟩
  ·cases ho9
   have r81 := hD.on 39 81 _ rfl (getD_true (hd9 ⟨39,.data⟩ (by simp) rfl))
   clear hD hd9 hi9
   refine wpOp_step rfl (fun K hK => ?_)
   go_simp
   exact hK _ _ ⟨p9,fun _ _ => rfl,rfl,(hM.val rfl)⟩
  ·cases ho9
   have r82 := hD.on 40 82 _ rfl (getD_true (hd9 ⟨40,.guard⟩ (by simp) rfl))
   have r10 := hD.old 10 _ rfl rfl
   clear hD hd9 hi9
   refine wpOp_step rfl (fun K hK => ?_)
   go_simp
   exact hK _ _ ⟨p9,fun _ _ => rfl,rfl,(hM.val rfl)⟩
  ·cases ho9
   have r82 := hD.on 40 82 _ rfl (getD_true (hd9 ⟨40,.guard⟩ (by simp) rfl))
   have r83 := hD.on 41 83 _ rfl (getD_true (hd9 ⟨41,.data⟩ (by simp) rfl))
   clear hD hd9 hi9
   refine wpOp_step rfl (fun K hK => ?_)
   go_simp
   exact hK _ _ ⟨p9,fun _ _ => rfl,act_eq (by rfl),(hM.val rfl)⟩
  ·cases ho9
   have r82 := hD.on 40 82 _ rfl (getD_true (hd9 ⟨40,.data⟩ (by simp) rfl))
   have r84 := hD.on 42 84 _ rfl (getD_true (hd9 ⟨42,.data⟩ (by simp) rfl))
   clear hD hd9 hi9
   refine wpOp_step rfl (fun K hK => ?_)
   go_simp
   exact hK _ _ ⟨p9,fun _ _ => rfl,rfl,(hM.val rfl)⟩
  ·cases ho9
   have r85 := hD.on 43 85 _ rfl (getD_true (hd9 ⟨43,.data⟩ (by simp) rfl))
   clear hD hd9 hi9
   refine wpOp_step rfl (fun K hK => ?_)
   go_simp
   exact hK _ _ ⟨p9,fun _ _ => rfl,rfl,(hM.val rfl)⟩
 ·intro p9 l9 W9 hn9 hl9 hM
  have fr6_20 := hM.fx _ (List.mem_of_getElem? (i := 0) rfl) (Or.inl (hl9 20 (by decide)))
  have fr6_32 := hM.fx _ (List.mem_of_getElem? (i := 1) rfl) (Or.inl (hl9 32 (by decide)))
  have fr6_37 := hM.fx _ (List.mem_of_getElem? (i := 2) rfl) (Or.inl (hl9 37 (by decide)))
  have kr6_0 := hM.fx _ (List.mem_of_getElem? (i := 3) rfl) (Or.inr (by rw [hn9]; simp))
  simp only [] at kr6_0
  have kr6_1 := hM.fx _ (List.mem_of_getElem? (i := 4) rfl) (Or.inr (by rw [hn9]; simp))
  simp only [] at kr6_1
  have kr6_2 := hM.fx _ (List.mem_of_getElem? (i := 5) rfl) (Or.inr (by rw [hn9]; simp))
  simp only [] at kr6_2
  replace hM := hM.st
  clear hl9 hs9 h09 hn9
  generalize p9 20 = q20 at *
  obtain ⟨Ar6_20,Nr6_20,Cr6_20⟩ := q20
  simp only [] at fr6_20
  generalize p9 32 = q32 at *
  obtain ⟨Ar6_32,Nr6_32,Cr6_32⟩ := q32
  simp only [] at fr6_32
  generalize p9 37 = q37 at *
  obtain ⟨Ar6_37,Nr6_37,Cr6_37⟩ := q37
  simp only [] at fr6_37
  clear hS z14_0_0 z14_0_1 z14_0_2 z14_1_0 z14_1_1 z14_1_2 z14_2_0 z14_2_1 z14_2_2
  have hS := hM
  clear hM
  simp only [Puts.lay,List.setIfInBounds_toArray,List.set_cons_zero,List.set_cons_succ]
  obtain ⟨⟨z15_0_0,z15_0_1,z15_0_2,-⟩,⟨z15_1_0,z15_1_1,z15_1_2,-⟩,⟨z15_2_0,z15_2_1,z15_2_2,-⟩,-⟩ := hS.cells
  go_wp2
  go_ret
  exact ⟨rfl,hS.fr⟩
end Go.Proofs.YtjemjhaphannaaaDoor
namespace Go.Proofs.YtjemjhaphannaaaDoor
open Go.RowKit
set_option maxHeartbeats 2000000 in
theorem ring_a (s : Bool) (a : Option Addr) (n cap : Nat) (xs : List Nat) (x : Int) (s' : Bool) (a' : Option Addr) (n' cap' : Nat) (x' : Int) (w : World) (hT : Tb w) (hn : xs.length = n) (hb : n ≤ 9223372036854775807) (hl : Lim w a xs) (hw : Pl.Wf xs) (hc : (dck s xs x != 0) = true) :
  Calls Tryd.prog 9 #[.agg #[.bool s,.slice a n cap,.int .i64 x],.agg #[.bool s',.slice a' n' cap',.int .i64 x']] w fun e w' => e = .returned (.bool true) ∧ Below w.heap.size w w' := by
 have HT := hide hT
 have HL := hide hl
 have HW := hide hw
 have HN := hide hn
 clear hT hl hw hn
 go_enter Tryd.func9,Tryd.ntmps9
 go_wp2_with fail
 refine (alive_any _ (((unhide HT).alloc _).alloc _)).mono ?_
 rintro e w1 ⟨rfl,hb1⟩
 have hS := (Fs.two w _ _ _ _).kept hb1
 obtain ⟨⟨z1_0_0,z1_0_1,z1_0_2,-⟩,⟨z1_1_0,z1_1_1,z1_1_2,-⟩,-⟩ := hS.cells
 go_wp2_with fail
 refine (dcheck_any s a n cap xs x _ (unhide HN) hb ((unhide HL).below hS.fr) (unhide HW)).mono ?_
 rintro e w2 ⟨rfl,hb2⟩
 replace hS := hS.kept hb2
 clear z1_0_0 z1_0_1 z1_0_2 z1_1_0 z1_1_1 z1_1_2
 obtain ⟨⟨z2_0_0,z2_0_1,z2_0_2,-⟩,⟨z2_1_0,z2_1_1,z2_1_2,-⟩,-⟩ := hS.cells
 go_wp2
 go_ret
 exact ⟨rfl,hS.fr⟩
set_option maxHeartbeats 2000000 in
theorem ring_b (s : Bool) (a : Option Addr) (n cap : Nat) (xs : List Nat) (x : Int) (s' : Bool) (a' : Option Addr) (n' cap' : Nat) (ys : List Nat) (x' : Int) (w : World) (hT : Tb w) (hn : xs.length = n) (hb : n ≤ 9223372036854775807) (hl : Lim w a xs) (hw : Pl.Wf xs) (hn' : ys.length = n') (hb' : n' ≤ 9223372036854775807) (hl' : Lim w a' ys) (hw' : Pl.Wf ys) (hc : (dck s xs x != 0) = false) (hc' : (dck s' ys x' != 0) = true) :
  Calls Tryd.prog 9 #[.agg #[.bool s,.slice a n cap,.int .i64 x],.agg #[.bool s',.slice a' n' cap',.int .i64 x']] w fun e w' => e = .returned (.bool true) ∧ Below w.heap.size w w' := by
 have HT := hide hT
 have HL := hide hl
 have HW := hide hw
 have HN := hide hn
 have HL' := hide hl'
 have HW' := hide hw'
 have HN' := hide hn'
 clear hT hl hw hn hl' hw' hn'
 go_enter Tryd.func9,Tryd.ntmps9
 go_wp2_with fail
 refine (alive_any _ (((unhide HT).alloc _).alloc _)).mono ?_
 rintro e w1 ⟨rfl,hb1⟩
 have hS := (Fs.two w _ _ _ _).kept hb1
 obtain ⟨⟨z1_0_0,z1_0_1,z1_0_2,-⟩,⟨z1_1_0,z1_1_1,z1_1_2,-⟩,-⟩ := hS.cells
 go_wp2_with fail
 refine (dcheck_any s a n cap xs x _ (unhide HN) hb ((unhide HL).below hS.fr) (unhide HW)).mono ?_
 rintro e w2 ⟨rfl,hb2⟩
 replace hS := hS.kept hb2
 clear z1_0_0 z1_0_1 z1_0_2 z1_1_0 z1_1_1 z1_1_2
 obtain ⟨⟨z2_0_0,z2_0_1,z2_0_2,-⟩,⟨z2_1_0,z2_1_1,z2_1_2,-⟩,-⟩ := hS.cells
 go_wp2_with fail
 refine (dcheck_any s' a' n' cap' ys x' _ (unhide HN') hb' ((unhide HL').below hS.fr) (unhide HW')).mono ?_
 rintro e w3 ⟨rfl,hb3⟩
 replace hS := hS.kept hb3
 clear z2_0_0 z2_0_1 z2_0_2 z2_1_0 z2_1_1 z2_1_2
 obtain ⟨⟨z3_0_0,z3_0_1,z3_0_2,-⟩,⟨z3_1_0,z3_1_1,z3_1_2,-⟩,-⟩ := hS.cells
 go_wp2
 go_ret
 exact ⟨rfl,hS.fr⟩
end Go.Proofs.YtjemjhaphannaaaDoor
namespace Go.Proofs.YtjemjhaphannaaaDoor
open Go.RowKit
theorem dadd_over (a a' : Option Addr) (n n' cap cap' m m' : Nat) (w : World) (h : Num w a n m) (h' : Num w a' n' m') (ho : Over (m + m')) :
  Calls Tryd.prog 101 #[.agg #[.slice a n cap],.agg #[.slice a' n' cap']] w fun e w' => e = .returned (.tuple #[.agg #[.slice none 0 0],.int .i64 4]) ∧ Below w.heap.size w w' := by
 refine (add_any a a' n n' cap cap' m m' w h h').mono ?_
 rintro e w' ⟨⟨_,_,_,_,h1⟩ | h1,hb⟩
 ·exact absurd h1.num.lt (Nat.not_lt.2 ho.le)
 ·exact ⟨h1.1,hb⟩
theorem dmul_over (a a' : Option Addr) (n n' cap cap' m m' : Nat) (w : World) (h : Num w a n m) (h' : Num w a' n' m') (ho : Over (m * m')) :
  Calls Tryd.prog 93 #[.agg #[.slice a n cap],.agg #[.slice a' n' cap']] w fun e w' => e = .returned (.tuple #[.agg #[.slice none 0 0],.int .i64 4]) ∧ Below w.heap.size w w' := by
 refine (mul_any a a' n n' cap cap' m m' w h h').mono ?_
 rintro e w' ⟨⟨_,_,_,_,h1⟩ | h1,hb⟩
 ·exact absurd h1.num.lt (Nat.not_lt.2 ho.le)
 ·exact ⟨h1.1,hb⟩
set_option maxHeartbeats 1000000 in
theorem Mul_over (s : Bool) (a : Option Addr) (n cap m : Nat) (x : Int) (s' : Bool) (a' : Option Addr) (n' cap' m' : Nat) (x' : Int) (w : World) (h : Dy w s a n m x) (h' : Dy w s' a' n' m' x') (hn : 0 < n) (hn' : 0 < n') (hx : -1073741824 ≤ x + x' ∧ x + x' ≤ 1073741824) (ho : Over (m * m')) :
  Calls Tryd.prog 44 #[.agg #[.bool s,.slice a n cap,.int .i64 x],.agg #[.bool s',.slice a' n' cap',.int .i64 x']] w fun e w' => e = .returned (.tuple #[.agg #[.bool false,.slice none 0 0,.int .i64 0],.int .i64 4]) ∧ Below w.heap.size w w' := by
 have H := hide h
 have H' := hide h'
 have HO := hide ho
 have hxr := h.range
 have hxr' := h'.range
 clear h h' ho
 go_enter Tryd.func44,Tryd.ntmps44
 go_wp2_with fail
 refine (checkBoth_dy s a n cap m x s' a' n' cap' m' x' _ ((unhide H).kept (gr_trans (gr_trans (gr_alloc _ _) (gr_alloc _ _)) (gr_alloc _ _))) ((unhide H').kept (gr_trans (gr_trans (gr_alloc _ _) (gr_alloc _ _)) (gr_alloc _ _)))).mono ?_
 rintro e w1 ⟨rfl,hb1⟩
 have hS := (Fs.three w _ _ _ _ _ _).kept hb1
 obtain ⟨⟨z1_0_0,z1_0_1,z1_0_2,-⟩,⟨z1_1_0,z1_1_1,z1_1_2,-⟩,⟨z1_2_0,z1_2_1,z1_2_2,-⟩,-⟩ := hS.cells
 go_wp2_with fail
 refine (isNought_no a n cap hn _).mono ?_
 rintro e w2 ⟨rfl,hb2⟩
 replace hS := hS.kept hb2
 clear z1_0_0 z1_0_1 z1_0_2 z1_1_0 z1_1_1 z1_1_2 z1_2_0 z1_2_1 z1_2_2
 obtain ⟨⟨z2_0_0,z2_0_1,z2_0_2,-⟩,⟨z2_1_0,z2_1_1,z2_1_2,-⟩,⟨z2_2_0,z2_2_1,z2_2_2,-⟩,-⟩ := hS.cells
 go_wp2_with fail
 refine (isNought_no a' n' cap' hn' _).mono ?_
 rintro e w3 ⟨rfl,hb3⟩
 replace hS := hS.kept hb3
 clear z2_0_0 z2_0_1 z2_0_2 z2_1_0 z2_1_1 z2_1_2 z2_2_0 z2_2_1 z2_2_2
 obtain ⟨⟨z3_0_0,z3_0_1,z3_0_2,-⟩,⟨z3_1_0,z3_1_1,z3_1_2,-⟩,⟨z3_2_0,z3_2_1,z3_2_2,-⟩,-⟩ := hS.cells
 go_wp2_with fail
 refine (beyond_no _ hx _).mono ?_
 rintro e w4 ⟨rfl,hb4⟩
 replace hS := hS.kept hb4
 clear z3_0_0 z3_0_1 z3_0_2 z3_1_0 z3_1_1 z3_1_2 z3_2_0 z3_2_1 z3_2_2
 obtain ⟨⟨z4_0_0,z4_0_1,z4_0_2,-⟩,⟨z4_1_0,z4_1_1,z4_1_2,-⟩,⟨z4_2_0,z4_2_1,z4_2_2,-⟩,-⟩ := hS.cells
 go_wp2_with fail
 refine (dmul_over a a' n n' cap cap' m m' _ ((unhide H).kept hS.fr).num ((unhide H').kept hS.fr).num (unhide HO)).mono ?_
 rintro e w5 ⟨rfl,hb5⟩
 replace hS := hS.kept hb5
 clear z4_0_0 z4_0_1 z4_0_2 z4_1_0 z4_1_1 z4_1_2 z4_2_0 z4_2_1 z4_2_2
 obtain ⟨⟨z5_0_0,z5_0_1,z5_0_2,-⟩,⟨z5_1_0,z5_1_1,z5_1_2,-⟩,⟨z5_2_0,z5_2_1,z5_2_2,-⟩,-⟩ := hS.cells
 have hltw5_0 : w.heap.size < w5.heap.size := block_lt (hS.bx ⟨w.heap.size,#[.bool s,.slice a n cap,.int .i64 x],26⟩ (by simp))
 have hltw5_1 : w.heap.size + 1 < w5.heap.size := block_lt (hS.bx ⟨w.heap.size + 1,#[.bool s',.slice a' n' cap',.int .i64 x'],26⟩ (by simp))
 have hltw5_2 : w.heap.size + 2 < w5.heap.size := block_lt (hS.bx ⟨w.heap.size + 2,#[.bool false,.slice none 0 0,.int .i64 0],26⟩ (by simp))
 have fz0 := hS.frozen (b := w.heap.size + 2) (cs := #[.bool false,.slice none 0 0,.int .i64 0]) (t := 26) (by simp) 0
 have fz1 := hS.frozen (b := w.heap.size + 2) (cs := #[.bool false,.slice none 0 0,.int .i64 0]) (t := 26) (by simp) 1
 have fz2 := hS.frozen (b := w.heap.size + 2) (cs := #[.bool false,.slice none 0 0,.int .i64 0]) (t := 26) (by simp) 2
 go_wp2
 have hB := fun u0 u1 u2 => ((hS.fr.setCell (p := ⟨w.heap.size + 2,0,none⟩) (by simp <;> omega) u0).setCell (p := ⟨w.heap.size + 2,1,none⟩) (by simp <;> omega) u1).setCell (p := ⟨w.heap.size + 2,2,none⟩) (by simp <;> omega) u2
 exact bodyPost_ret (v := .tuple #[.agg #[.bool false,.slice none 0 0,.int .i64 0],.int .i64 4]) (by simp [results,Tryd.results44,go_sem,z5_2_0,z5_2_1,z5_2_2,hltw5_2]) rfl ⟨rfl,(hB _ _ _).alloc (hB _ _ _).size _⟩
set_option maxHeartbeats 1000000 in
theorem addS_over (s : Bool) (a : Option Addr) (n cap m : Nat) (a' : Option Addr) (n' cap' m' : Nat) (w : World) (h : Num w a n m) (h' : Num w a' n' m') (ho : Over (m + m')) :
  Calls Tryd.prog 57 #[.bool s,.agg #[.slice a n cap],.bool s,.agg #[.slice a' n' cap']] w fun e w' => e = .returned (.tuple #[.bool s,.agg #[.slice none 0 0],.int .i64 4]) ∧ Below w.heap.size w w' := by
 have H := hide h
 have H' := hide h'
 have HO := hide ho
 clear h h' ho
 go_enter Tryd.func57,Tryd.ntmps57
 go_wp2_with fail
 refine (dadd_over a a' n n' cap cap' m m' _ ((((unhide H).alloc _).alloc _).alloc _) ((((unhide H').alloc _).alloc _).alloc _) (unhide HO)).mono ?_
 rintro e w1 ⟨rfl,hb1⟩
 have hS := (Fs.three w _ _ _ _ _ _).kept hb1
 obtain ⟨⟨z1_0_0,-⟩,⟨z1_1_0,-⟩,⟨z1_2_0,-⟩,-⟩ := hS.cells
 have hltw1_0 : w.heap.size < w1.heap.size := block_lt (hS.bx ⟨w.heap.size,#[.slice a n cap],24⟩ (by simp))
 have hltw1_1 : w.heap.size + 1 < w1.heap.size := block_lt (hS.bx ⟨w.heap.size + 1,#[.slice a' n' cap'],24⟩ (by simp))
 have hltw1_2 : w.heap.size + 2 < w1.heap.size := block_lt (hS.bx ⟨w.heap.size + 2,#[.slice none 0 0],24⟩ (by simp))
 replace hS := hS.alloc #[.slice none 0 0] 24
 go_wp2_with fail
 refine wp_region_any (by kernel_rfl) ?_
 refine wpAny_det [some (28,.bool s),some (29,.agg #[.slice none 0 0]),some (30,.int .i64 4),some (8,.bool s),none,some (10,.int .i64 4)]
  (fun l9 W9 => Fs w W9 (pickBs l9 [(4,[⟨w1.heap.size,#[.slice none 0 0],24⟩,⟨w.heap.size,#[.slice a n cap],24⟩,⟨w.heap.size + 1,#[.slice a' n' cap'],24⟩,⟨w.heap.size + 2,#[.slice none 0 0],24⟩])] [⟨w1.heap.size,#[.slice none 0 0],24⟩,⟨w.heap.size,#[.slice a n cap],24⟩,⟨w.heap.size + 1,#[.slice a' n' cap'],24⟩,⟨w.heap.size + 2,#[.slice none 0 0],24⟩])) _ _ rfl (by kernel_rfl) rfl rfl ?_ ?_ (hS).drew
 ·intro l9 t9 W9 i9 hD hi9 hl9 hM
  obtain ⟨o9,ho9,hd9⟩ := (mem_ready.1 hi9).2
  have hin9 : i9 < 6 := by
   by_cases h : i9 < 6
   ·exact h
   ·rw [Array.getElem?_eq_none (by rw [hD.len]; simp; omega)] at hl9; cases hl9
  have hcase : i9 = 0 ∨ i9 = 1 ∨ i9 = 2 ∨ i9 = 3 ∨ i9 = 4 ∨ i9 = 5 := by omega
  clear hin9
  rcases hcase with rfl | rfl | rfl | rfl | rfl | rfl
  ·cases ho9
   have r0 := hD.old 0 _ rfl rfl
   clear hD hd9 hi9
   refine wpOp_step rfl (fun K hK => ?_)
   go_simp
   exact hK _ _ ⟨rfl,(keepM rfl hM)⟩
  ·cases ho9
   have r11 := hD.old 11 _ rfl rfl
   have hM0 : Fs w W9 [⟨w1.heap.size,#[.slice none 0 0],24⟩,⟨w.heap.size,#[.slice a n cap],24⟩,⟨w.heap.size + 1,#[.slice a' n' cap'],24⟩,⟨w.heap.size + 2,#[.slice none 0 0],24⟩] := by
    have hM1 := hM
    simp only [pickBs] at hM1
    rw [if_neg (hD.waits 1 4 _ ⟨1,.data⟩ hl9 rfl (by simp) rfl rfl)] at hM1
    exact hM1
   have c9_0 := hM0.cellAt (b := w1.heap.size) (cs := #[.slice none 0 0]) (t := 24) (by simp) 0 _ rfl
   clear hM0
   clear hD hd9 hi9
   refine wpOp_step rfl (fun K hK => ?_)
   go_simp
   exact hK _ _ ⟨rfl,(keepM rfl hM)⟩
  ·cases ho9
   have r12 := hD.old 12 _ rfl rfl
   clear hD hd9 hi9
   refine wpOp_step rfl (fun K hK => ?_)
   go_simp
   exact hK _ _ ⟨rfl,(keepM rfl hM)⟩
  ·cases ho9
   have r28 := hD.on 0 28 _ rfl (getD_true (hd9 ⟨0,.data⟩ (by simp) rfl))
   clear hD hd9 hi9
   refine wpOp_step rfl (fun K hK => ?_)
   go_simp
   exact hK _ _ ⟨rfl,(keepM rfl hM)⟩
  ·cases ho9
   have r9 := hD.old 9 _ rfl rfl
   have r29 := hD.on 1 29 _ rfl (getD_true (hd9 ⟨1,.data⟩ (by simp) rfl))
   have hM0 : Fs w W9 [⟨w1.heap.size,#[.slice none 0 0],24⟩,⟨w.heap.size,#[.slice a n cap],24⟩,⟨w.heap.size + 1,#[.slice a' n' cap'],24⟩,⟨w.heap.size + 2,#[.slice none 0 0],24⟩] := by
    have hM1 := hM
    simp only [pickBs] at hM1
    rw [if_neg (by rw [hl9]; simp)] at hM1
    exact hM1
   have c9_0 := hM0.cellAt (b := w.heap.size + 2) (cs := #[.slice none 0 0]) (t := 24) (by simp) 0 _ rfl
   have z9_0 := hM0.frozen (b := w.heap.size + 2) (cs := #[.slice none 0 0]) (t := 24) (by simp) 0
   clear hD hd9 hi9
   refine wpOp_step rfl (fun K hK => ?_)
   go_simp
   exact hK _ _ ⟨rfl,putM trivial hl9 (hM0.put (b := w.heap.size + 2) (cs := #[.slice none 0 0]) (t := 24) (by simp) (by simp) 0 (.slice none 0 0) [⟨w1.heap.size,#[.slice none 0 0],24⟩,⟨w.heap.size,#[.slice a n cap],24⟩,⟨w.heap.size + 1,#[.slice a' n' cap'],24⟩,⟨w.heap.size + 2,#[.slice none 0 0],24⟩] (by simp <;> omega))⟩
  ·cases ho9
   have r30 := hD.on 2 30 _ rfl (getD_true (hd9 ⟨2,.data⟩ (by simp) rfl))
   clear hD hd9 hi9
   refine wpOp_step rfl (fun K hK => ?_)
   go_simp
   exact hK _ _ ⟨rfl,(keepM rfl hM)⟩
 ·intro l9 W9 hl9 hM
  simp only [pickBs] at hM
  rw [if_pos (hl9 4 (by decide))] at hM
  clear hl9
  clear hS z1_0_0 z1_1_0 z1_2_0
  have hS := hM
  clear hM
  simp only [Puts.lay,List.setIfInBounds_toArray,List.set_cons_zero,List.set_cons_succ]
  obtain ⟨⟨z2_0_0,-⟩,⟨z2_1_0,-⟩,⟨z2_2_0,-⟩,⟨z2_3_0,-⟩,-⟩ := hS.cells
  go_wp2
  exact bodyPost_ret (v := .tuple #[.bool s,.agg #[.slice none 0 0],.int .i64 4]) (by simp [results,Tryd.results57,go_sem,z2_3_0]) rfl ⟨rfl,hS.fr⟩
set_option maxHeartbeats 1000000 in
theorem together_over2 (s : Bool) (a : Option Addr) (n cap : Nat) (x : Int) (s' : Bool) (a' : Option Addr) (n' cap' m' : Nat) (x' : Int) (j' : Nat) (w : World) (h' : Num w a' n' m') (hmin : min x x' = x) (hj : x' - x = (j' : Int)) (h0 : 0 < j') (hj2 : j' < 9223372036854775808) (ho : Over (m' * 2 ^ j')) :
  Calls Tryd.prog 56 #[.agg #[.bool s,.slice a n cap,.int .i64 x],.agg #[.bool s',.slice a' n' cap',.int .i64 x']] w fun e w' => e = .returned (.tuple #[.agg #[.slice none 0 0],.agg #[.slice none 0 0],.int .i64 4]) ∧ Below w.heap.size w w' := by
 have H' := hide h'
 have HJ := hide hj
 have HO := hide ho
 clear h' hj ho
 go_enter Tryd.func56,Tryd.ntmps56
 go_wp2_with fail
 refine (told_same s a n cap x _).mono ?_
 rintro e w1 ⟨rfl,hb1⟩
 have hS := (Fs.four w _ _ _ _ _ _ _ _).kept hb1
 obtain ⟨⟨z1_0_0,z1_0_1,z1_0_2,-⟩,⟨z1_1_0,z1_1_1,z1_1_2,-⟩,⟨z1_2_0,-⟩,⟨z1_3_0,-⟩,-⟩ := hS.cells
 have fz0 := hS.frozen (b := w.heap.size + 2) (cs := #[.slice none 0 0]) (t := 24) (by simp) 0
 have hS2 := hS.put (b := w.heap.size + 2) (cs := #[.slice none 0 0]) (t := 24) (by simp) (by simp) 0 (.slice a n cap) [⟨w.heap.size,#[.bool s,.slice a n cap,.int .i64 x],26⟩,⟨w.heap.size + 1,#[.bool s',.slice a' n' cap',.int .i64 x'],26⟩,⟨w.heap.size + 2,#[.slice a n cap],24⟩,⟨w.heap.size + 3,#[.slice none 0 0],24⟩] (by simp)
 go_wp2_with fail
 refine (told_over s' a' n' cap' m' x' x j' _ ((unhide H').kept hS2.fr) (unhide HJ) h0 hj2 (unhide HO)).mono ?_
 rintro e w2 ⟨rfl,hb2⟩
 clear z1_0_0 z1_0_1 z1_0_2 z1_1_0 z1_1_1 z1_1_2 z1_2_0 z1_3_0 fz0
 clear hS
 have hS := hS2.kept hb2
 clear hS2
 obtain ⟨⟨z2_0_0,z2_0_1,z2_0_2,-⟩,⟨z2_1_0,z2_1_1,z2_1_2,-⟩,⟨z2_2_0,-⟩,⟨z2_3_0,-⟩,-⟩ := hS.cells
 have fy0 := hS.frozen (b := w.heap.size + 2) (cs := #[.slice a n cap]) (t := 24) (by simp) 0
 have fz0 := hS.frozen (b := w.heap.size + 3) (cs := #[.slice none 0 0]) (t := 24) (by simp) 0
 go_wp2
 exact bodyPost_ret (v := .tuple #[.agg #[.slice none 0 0],.agg #[.slice none 0 0],.int .i64 4]) (by simp [results,Tryd.results56,go_sem,z2_2_0,z2_3_0]) rfl ⟨rfl,((hS.fr.setCell (by simp <;> omega) _).setCell (by simp <;> omega) _).setCell (by simp <;> omega) _⟩
end Go.Proofs.YtjemjhaphannaaaDoor
namespace Go.Proofs.YtjemjhaphannaaaDoor
open Go.RowKit
set_option maxHeartbeats 1000000 in
theorem Add_over2 (s : Bool) (a : Option Addr) (n cap m : Nat) (x : Int) (s' : Bool) (a' : Option Addr) (n' cap' m' : Nat) (x' : Int) (j' : Nat) (w : World) (h : Dy w s a n m x) (h' : Dy w s' a' n' m' x') (hn : 0 < n) (hn' : 0 < n') (hmin : min x x' = x) (hj : x' - x = (j' : Int)) (h0 : 0 < j') (hj2 : j' < 9223372036854775808) (ho : Over (m' * 2 ^ j')) :
  Calls Tryd.prog 15 #[.agg #[.bool s,.slice a n cap,.int .i64 x],.agg #[.bool s',.slice a' n' cap',.int .i64 x']] w fun e w' => e = .returned (.tuple #[.agg #[.bool false,.slice none 0 0,.int .i64 0],.int .i64 4]) ∧ Below w.heap.size w w' := by
 have H := hide h
 have H' := hide h'
 have HJ := hide hj
 have HO := hide ho
 clear h h' hj ho
 go_enter Tryd.func15,Tryd.ntmps15
 go_wp2_with fail
 refine (checkBoth_dy s a n cap m x s' a' n' cap' m' x' _ ((unhide H).kept (gr_trans (gr_trans (gr_alloc _ _) (gr_alloc _ _)) (gr_alloc _ _))) ((unhide H').kept (gr_trans (gr_trans (gr_alloc _ _) (gr_alloc _ _)) (gr_alloc _ _)))).mono ?_
 rintro e w1 ⟨rfl,hb1⟩
 have hS := (Fs.three w _ _ _ _ _ _).kept hb1
 obtain ⟨⟨z1_0_0,z1_0_1,z1_0_2,-⟩,⟨z1_1_0,z1_1_1,z1_1_2,-⟩,⟨z1_2_0,z1_2_1,z1_2_2,-⟩,-⟩ := hS.cells
 go_wp2_with fail
 refine (isNought_no a n cap hn _).mono ?_
 rintro e w2 ⟨rfl,hb2⟩
 replace hS := hS.kept hb2
 clear z1_0_0 z1_0_1 z1_0_2 z1_1_0 z1_1_1 z1_1_2 z1_2_0 z1_2_1 z1_2_2
 obtain ⟨⟨z2_0_0,z2_0_1,z2_0_2,-⟩,⟨z2_1_0,z2_1_1,z2_1_2,-⟩,⟨z2_2_0,z2_2_1,z2_2_2,-⟩,-⟩ := hS.cells
 go_wp2_with fail
 refine (isNought_no a' n' cap' hn' _).mono ?_
 rintro e w3 ⟨rfl,hb3⟩
 replace hS := hS.kept hb3
 clear z2_0_0 z2_0_1 z2_0_2 z2_1_0 z2_1_1 z2_1_2 z2_2_0 z2_2_1 z2_2_2
 obtain ⟨⟨z3_0_0,z3_0_1,z3_0_2,-⟩,⟨z3_1_0,z3_1_1,z3_1_2,-⟩,⟨z3_2_0,z3_2_1,z3_2_2,-⟩,-⟩ := hS.cells
 go_wp2_with fail
 refine (together_over2 s a n cap x s' a' n' cap' m' x' j' _ ((unhide H').kept hS.fr).num hmin (unhide HJ) h0 hj2 (unhide HO)).mono ?_
 rintro e w4 ⟨rfl,hb4⟩
 replace hS := hS.kept hb4
 clear z3_0_0 z3_0_1 z3_0_2 z3_1_0 z3_1_1 z3_1_2 z3_2_0 z3_2_1 z3_2_2
 obtain ⟨⟨z4_0_0,z4_0_1,z4_0_2,-⟩,⟨z4_1_0,z4_1_1,z4_1_2,-⟩,⟨z4_2_0,z4_2_1,z4_2_2,-⟩,-⟩ := hS.cells
 have hltw4_0 : w.heap.size < w4.heap.size := block_lt (hS.bx ⟨w.heap.size,#[.bool s,.slice a n cap,.int .i64 x],26⟩ (by simp))
 have hltw4_1 : w.heap.size + 1 < w4.heap.size := block_lt (hS.bx ⟨w.heap.size + 1,#[.bool s',.slice a' n' cap',.int .i64 x'],26⟩ (by simp))
 have hltw4_2 : w.heap.size + 2 < w4.heap.size := block_lt (hS.bx ⟨w.heap.size + 2,#[.bool false,.slice none 0 0,.int .i64 0],26⟩ (by simp))
 have fz0 := hS.frozen (b := w.heap.size + 2) (cs := #[.bool false,.slice none 0 0,.int .i64 0]) (t := 26) (by simp) 0
 have fz1 := hS.frozen (b := w.heap.size + 2) (cs := #[.bool false,.slice none 0 0,.int .i64 0]) (t := 26) (by simp) 1
 have fz2 := hS.frozen (b := w.heap.size + 2) (cs := #[.bool false,.slice none 0 0,.int .i64 0]) (t := 26) (by simp) 2
 go_wp2
 have hB := fun u0 u1 u2 => ((hS.fr.setCell (p := ⟨w.heap.size + 2,0,none⟩) (by simp <;> omega) u0).setCell (p := ⟨w.heap.size + 2,1,none⟩) (by simp <;> omega) u1).setCell (p := ⟨w.heap.size + 2,2,none⟩) (by simp <;> omega) u2
 have hlt8 : w.heap.size + 1 + 1 < w4.heap.size := by omega
 have hlt9 : w.heap.size + 1 + 1 < w4.heap.size + 1 := by omega
 exact bodyPost_ret (v := .tuple #[.agg #[.bool false,.slice none 0 0,.int .i64 0],.int .i64 4]) (by simp [results,Tryd.results15,go_sem,z4_2_0,z4_2_1,z4_2_2,hlt8,hlt9]) rfl ⟨rfl,gr_two (hB _ _ _) _ _⟩
set_option maxHeartbeats 2000000 in
theorem Add_sumover (s : Bool) (a : Option Addr) (n cap m : Nat) (x : Int) (a' : Option Addr) (n' cap' m' : Nat) (x' : Int) (t : Int) (j j' : Nat) (w : World) (h : Dy w s a n m x) (h' : Dy w s a' n' m' x') (hn : 0 < n) (hn' : 0 < n') (hmin : min x x' = t) (hj : x - t = (j : Int)) (hj' : x' - t = (j' : Int)) (hj2 : j < 9223372036854775808) (hj2' : j' < 9223372036854775808) (hno : ¬ Over (m * 2 ^ j)) (hno' : ¬ Over (m' * 2 ^ j')) (ho : Over (m * 2 ^ j + m' * 2 ^ j')) :
  Calls Tryd.prog 15 #[.agg #[.bool s,.slice a n cap,.int .i64 x],.agg #[.bool s,.slice a' n' cap',.int .i64 x']] w fun e w' => e = .returned (.tuple #[.agg #[.bool false,.slice none 0 0,.int .i64 0],.int .i64 4]) ∧ Below w.heap.size w w' := by
 have H := hide h
 have H' := hide h'
 have HJ := hide (And.intro hj (And.intro hj' (And.intro hno (And.intro hno' ho))))
 clear h h' hj hj' hno hno' ho
 go_enter Tryd.func15,Tryd.ntmps15
 go_wp2_with fail
 refine (checkBoth_dy s a n cap m x s a' n' cap' m' x' _ ((unhide H).kept (gr_trans (gr_trans (gr_alloc _ _) (gr_alloc _ _)) (gr_alloc _ _))) ((unhide H').kept (gr_trans (gr_trans (gr_alloc _ _) (gr_alloc _ _)) (gr_alloc _ _)))).mono ?_
 rintro e w1 ⟨rfl,hb1⟩
 have hS := (Fs.three w _ _ _ _ _ _).kept hb1
 obtain ⟨⟨z1_0_0,z1_0_1,z1_0_2,-⟩,⟨z1_1_0,z1_1_1,z1_1_2,-⟩,⟨z1_2_0,z1_2_1,z1_2_2,-⟩,-⟩ := hS.cells
 go_wp2_with fail
 refine (isNought_no a n cap hn _).mono ?_
 rintro e w2 ⟨rfl,hb2⟩
 replace hS := hS.kept hb2
 clear z1_0_0 z1_0_1 z1_0_2 z1_1_0 z1_1_1 z1_1_2 z1_2_0 z1_2_1 z1_2_2
 obtain ⟨⟨z2_0_0,z2_0_1,z2_0_2,-⟩,⟨z2_1_0,z2_1_1,z2_1_2,-⟩,⟨z2_2_0,z2_2_1,z2_2_2,-⟩,-⟩ := hS.cells
 go_wp2_with fail
 refine (isNought_no a' n' cap' hn' _).mono ?_
 rintro e w3 ⟨rfl,hb3⟩
 replace hS := hS.kept hb3
 clear z2_0_0 z2_0_1 z2_0_2 z2_1_0 z2_1_1 z2_1_2 z2_2_0 z2_2_1 z2_2_2
 obtain ⟨⟨z3_0_0,z3_0_1,z3_0_2,-⟩,⟨z3_1_0,z3_1_1,z3_1_2,-⟩,⟨z3_2_0,z3_2_1,z3_2_2,-⟩,-⟩ := hS.cells
 go_wp2_with fail
 refine (together_ok s a n cap m x s a' n' cap' m' x' t j j' _ ((unhide H).kept hS.fr).num ((unhide H').kept hS.fr).num hmin (unhide HJ).1 (unhide HJ).2.1 hj2 hj2' (unhide HJ).2.2.1 (unhide HJ).2.2.2.1).mono ?_
 rintro e w4 ⟨⟨A4,N4,C4,B4,O4,Q4,rfl,g4,g5⟩,hb4⟩
 replace hS := hS.kept hb4
 clear z3_0_0 z3_0_1 z3_0_2 z3_1_0 z3_1_1 z3_1_2 z3_2_0 z3_2_1 z3_2_2
 obtain ⟨⟨z4_0_0,z4_0_1,z4_0_2,-⟩,⟨z4_1_0,z4_1_1,z4_1_2,-⟩,⟨z4_2_0,z4_2_1,z4_2_2,-⟩,-⟩ := hS.cells
 have G4 := hide g4
 have G5 := hide g5
 clear g4 g5
 have hltw4_0 : w.heap.size < w4.heap.size := block_lt (hS.bx ⟨w.heap.size,#[.bool s,.slice a n cap,.int .i64 x],26⟩ (by simp))
 have hltw4_1 : w.heap.size + 1 < w4.heap.size := block_lt (hS.bx ⟨w.heap.size + 1,#[.bool s,.slice a' n' cap',.int .i64 x'],26⟩ (by simp))
 have hltw4_2 : w.heap.size + 2 < w4.heap.size := block_lt (hS.bx ⟨w.heap.size + 2,#[.bool false,.slice none 0 0,.int .i64 0],26⟩ (by simp))
 replace hS := (hS.alloc #[.slice A4 N4 C4] 24).alloc #[.slice B4 O4 Q4] 24
 rw [World.size_alloc] at hS
 go_wp2_with fail
 refine (addS_over s A4 N4 C4 _ B4 O4 Q4 _ _ (((unhide G4).alloc _).alloc _) (((unhide G5).alloc _).alloc _) (unhide HJ).2.2.2.2).mono ?_
 rintro e w5 ⟨rfl,hb5⟩
 replace hS := hS.kept hb5
 clear z4_0_0 z4_0_1 z4_0_2 z4_1_0 z4_1_1 z4_1_2 z4_2_0 z4_2_1 z4_2_2
 obtain ⟨⟨z5_0_0,-⟩,⟨z5_1_0,-⟩,⟨z5_2_0,z5_2_1,z5_2_2,-⟩,⟨z5_3_0,z5_3_1,z5_3_2,-⟩,⟨z5_4_0,z5_4_1,z5_4_2,-⟩,-⟩ := hS.cells
 have hltw5_0 : w4.heap.size + 1 < w5.heap.size := block_lt (hS.bx ⟨w4.heap.size + 1,#[.slice B4 O4 Q4],24⟩ (by simp))
 have hltw5_1 : w4.heap.size < w5.heap.size := block_lt (hS.bx ⟨w4.heap.size,#[.slice A4 N4 C4],24⟩ (by simp))
 have hltw5_2 : w.heap.size < w5.heap.size := block_lt (hS.bx ⟨w.heap.size,#[.bool s,.slice a n cap,.int .i64 x],26⟩ (by simp))
 have hltw5_3 : w.heap.size + 1 < w5.heap.size := block_lt (hS.bx ⟨w.heap.size + 1,#[.bool s,.slice a' n' cap',.int .i64 x'],26⟩ (by simp))
 have hltw5_4 : w.heap.size + 2 < w5.heap.size := block_lt (hS.bx ⟨w.heap.size + 2,#[.bool false,.slice none 0 0,.int .i64 0],26⟩ (by simp))
 have fz0 := hS.frozen (b := w.heap.size + 2) (cs := #[.bool false,.slice none 0 0,.int .i64 0]) (t := 26) (by simp) 0
 have fz1 := hS.frozen (b := w.heap.size + 2) (cs := #[.bool false,.slice none 0 0,.int .i64 0]) (t := 26) (by simp) 1
 have fz2 := hS.frozen (b := w.heap.size + 2) (cs := #[.bool false,.slice none 0 0,.int .i64 0]) (t := 26) (by simp) 2
 go_wp2
 have hB := fun u0 u1 u2 => ((hS.fr.setCell (p := ⟨w.heap.size + 2,0,none⟩) (by simp <;> omega) u0).setCell (p := ⟨w.heap.size + 2,1,none⟩) (by simp <;> omega) u1).setCell (p := ⟨w.heap.size + 2,2,none⟩) (by simp <;> omega) u2
 exact bodyPost_ret (v := .tuple #[.agg #[.bool false,.slice none 0 0,.int .i64 0],.int .i64 4]) (by simp [results,Tryd.results15,go_sem,z5_4_0,z5_4_1,z5_4_2,hltw5_4]) rfl ⟨rfl,(hB _ _ _).alloc (hB _ _ _).size _⟩
end Go.Proofs.YtjemjhaphannaaaDoor
namespace Go.Proofs.YtjemjhaphannaaaDoor
open Go.RowKit
def OkD (s : Bool) (m : Nat) (x : Int) : Prop := (m = 0 ∧ s = false ∧ x = 0) ∨ (m % 2 = 1 ∧ -1073741824 ≤ x ∧ x ≤ 1073741824)
def Sums (s : Bool) (m : Nat) (x : Int) (s' : Bool) (m' : Nat) (x' : Int) (er : Int) (r : Bool) (v : Nat) (y : Int) : Prop :=
 ∀ (W : World) (A : Option Addr) (N C : Nat) (A' : Option Addr) (N' C' : Nat),Num W A N m → Num W A' N' m' → Tb W →
  Calls Tryd.prog 15 #[.agg #[.bool s,.slice A N C,.int .i64 x],.agg #[.bool s',.slice A' N' C',.int .i64 x']] W fun e w' => (∃ A N C,e = .returned (.tuple #[.agg #[.bool r,.slice A N C,.int .i64 y],.int .i64 er]) ∧ Num w' A N v) ∧ Below W.heap.size W w'
def Worth (s : Bool) (m : Nat) (x : Int) (s' : Bool) (m' : Nat) (x' : Int) (r : Bool) (v : Nat) (y : Int) : Prop :=
 ∃ (T : Int) (i j k : Nat),x - T = (i : Int) ∧ x' - T = (j : Int) ∧ y - T = (k : Int) ∧ sv r (v * 2 ^ k) = sv s (m * 2 ^ i) + sv s' (m' * 2 ^ j)
theorem num_none (w : World) : Num w none 0 0 := ⟨[],rfl,Or.inl rfl,Pl.wf_nil,Pl.norm_nil,rfl,by omega⟩
theorem Sums.many {s : Bool} {m : Nat} {x : Int} {s' : Bool} {m' : Nat} {x' : Int} (h : ∀ (W : World) (A : Option Addr) (N C : Nat) (A' : Option Addr) (N' C' : Nat),Num W A N m → Num W A' N' m' → Tb W →
  Calls Tryd.prog 15 #[.agg #[.bool s,.slice A N C,.int .i64 x],.agg #[.bool s',.slice A' N' C',.int .i64 x']] W fun e w' => e = .returned (.tuple #[.agg #[.bool false,.slice none 0 0,.int .i64 0],.int .i64 4]) ∧ Below W.heap.size W w') : Sums s m x s' m' x' 4 false 0 0 := fun W A N C A' N' C' g g' hT => by
 refine (h W A N C A' N' C' g g' hT).mono ?_
 rintro e w' ⟨rfl,hb⟩
 exact ⟨⟨none,0,0,rfl,num_none _⟩,hb⟩
theorem Sums.of {s : Bool} {m : Nat} {x : Int} {s' : Bool} {m' : Nat} {x' t : Int} {i j v : Nat} {r : Bool} (hm : m % 2 = 1 ∧ -1073741824 ≤ x ∧ x ≤ 1073741824) (hm' : m' % 2 = 1 ∧ -1073741824 ≤ x' ∧ x' ≤ 1073741824) (ht : min x x' = t) (hi : x - t = (i : Int)) (hj : x' - t = (j : Int)) (hno : ¬ Over (m * 2 ^ i)) (hno' : ¬ Over (m' * 2 ^ j))
  (hS : ∀ (W : World) (A : Option Addr) (N C : Nat) (A' : Option Addr) (N' C' : Nat),Num W A N (m * 2 ^ i) → Num W A' N' (m' * 2 ^ j) → Calls Tryd.prog 57 #[.bool s,.agg #[.slice A N C],.bool s',.agg #[.slice A' N' C']] W fun e w' => (∃ A N C,e = .returned (.tuple #[.bool r,.agg #[.slice A N C],.int .i64 0]) ∧ Mine w' W.heap.size A N C v) ∧ Below W.heap.size W w') (hv : v < 4294967296 ^ Pl.top) :
  (v = 0 ∧ Sums s m x s' m' x' 0 false 0 0) ∨ ∃ z,0 < v ∧ Tz v z ∧ z < 524288 ∧ ((-1073741824 ≤ t + z ∧ t + z ≤ 1073741824 ∧ Sums s m x s' m' x' 0 r (v / 2 ^ z) (t + (z : Int))) ∨ ((1073741824 < t + z ∨ t + z < -1073741824) ∧ Sums s m x s' m' x' 4 false 0 0)) := by
 have hp : ∀ {W : World} {A : Option Addr} {N : Nat},Num W A N m → 0 < N := fun g => by have := g.zero; omega
 have hp' : ∀ {W : World} {A : Option Addr} {N : Nat},Num W A N m' → 0 < N := fun g => by have := g.zero; omega
 rcases Nat.eq_zero_or_pos v with h0 | h0
 ·subst h0
  refine Or.inl ⟨rfl,fun W A N C A' N' C' g g' _ => ?_⟩
  refine (Add_zero s A N C m x s' A' N' C' m' x' t i j r W ⟨g,Or.inr hm⟩ ⟨g',Or.inr hm'⟩ (hp g) (hp' g') ht hi hj (by omega) (by omega) hno hno' (hide hS)).mono ?_
  rintro e w' ⟨rfl,hb⟩
  exact ⟨⟨none,0,0,rfl,num_none _⟩,hb⟩
 ·have h2 : 4294967296 ^ Pl.top = 2 ^ (32 * Pl.top) := by rw [Nat.pow_mul]
  rw [h2] at hv
  obtain ⟨z,hz,hz2⟩ := tz_ex h0 hv
  have hz3 : z < 524288 := by have := Pl.top_eq; omega
  refine Or.inr ⟨z,h0,hz,hz3,?_⟩
  by_cases hx : -1073741824 ≤ t + z ∧ t + z ≤ 1073741824
  ·refine Or.inl ⟨hx.1,hx.2,fun W A N C A' N' C' g g' hT => ?_⟩
   refine (Add_num s A N C m x s' A' N' C' m' x' t i j v z r W ⟨g,Or.inr hm⟩ ⟨g',Or.inr hm'⟩ (hp g) (hp' g') hT ht hi hj (by omega) (by omega) hno hno' h0 hz hz3 hx (hide hS)).mono ?_
   rintro e w' ⟨⟨A,N,C,rfl,h1⟩,hb⟩
   exact ⟨⟨A,N,C,rfl,h1.num⟩,hb⟩
  ·refine Or.inr ⟨by omega,Sums.many fun W A N C A' N' C' g g' hT => ?_⟩
   by_cases hx1 : 1073741824 < t + z
   ·exact Add_above s A N C m x s' A' N' C' m' x' t i j v z r W ⟨g,Or.inr hm⟩ ⟨g',Or.inr hm'⟩ (hp g) (hp' g') ht hi hj (by omega) (by omega) hno hno' hT h0 hz hz3 hx1 (hide hS)
   ·exact Add_below s A N C m x s' A' N' C' m' x' t i j v z r W ⟨g,Or.inr hm⟩ ⟨g',Or.inr hm'⟩ (hp g) (hp' g') ht hi hj (by omega) (by omega) hno hno' hT h0 hz hz3 (by omega) (hide hS)
theorem sums_pair {s : Bool} {m : Nat} {x : Int} {s' : Bool} {m' : Nat} {x' t : Int} {i j v : Nat} {r r' : Bool} (hi : x - t = (i : Int)) (hj : x' - t = (j : Int)) (hr : 0 < v → r = r') (hw : sv r v = sv s (m * 2 ^ i) + sv s' (m' * 2 ^ j))
  (P : (v = 0 ∧ Sums s m x s' m' x' 0 false 0 0) ∨ ∃ z,0 < v ∧ Tz v z ∧ z < 524288 ∧ ((-1073741824 ≤ t + z ∧ t + z ≤ 1073741824 ∧ Sums s m x s' m' x' 0 r (v / 2 ^ z) (t + (z : Int))) ∨ ((1073741824 < t + z ∨ t + z < -1073741824) ∧ Sums s m x s' m' x' 4 false 0 0)))
  (Q : (v = 0 ∧ Sums s' m' x' s m x 0 false 0 0) ∨ ∃ z,0 < v ∧ Tz v z ∧ z < 524288 ∧ ((-1073741824 ≤ t + z ∧ t + z ≤ 1073741824 ∧ Sums s' m' x' s m x 0 r' (v / 2 ^ z) (t + (z : Int))) ∨ ((1073741824 < t + z ∨ t + z < -1073741824) ∧ Sums s' m' x' s m x 4 false 0 0))) :
  ∃ er q v0 y,Sums s m x s' m' x' er q v0 y ∧ Sums s' m' x' s m x er q v0 y ∧ ((er = 0 ∧ Worth s m x s' m' x' q v0 y) ∨ (er = 4 ∧ q = false ∧ v0 = 0 ∧ y = 0)) := by
 rcases P with ⟨h0,P⟩ | ⟨z,h0,hz,hz2,P⟩
 ·rcases Q with ⟨_,Q⟩ | ⟨z,h1,_⟩
  ·subst h0
   obtain ⟨T,hT⟩ : ∃ T,T = min t 0 := ⟨_,rfl⟩
   obtain ⟨d,hd⟩ : ∃ d : Nat,t - T = (d : Int) := ⟨(t - T).toNat,by omega⟩
   obtain ⟨k,hk⟩ : ∃ k : Nat,0 - T = (k : Int) := ⟨(0 - T).toNat,by omega⟩
   refine ⟨0,false,0,0,P,Q,Or.inl ⟨rfl,T,i + d,j + d,k,by omega,by omega,hk,?_⟩⟩
   have e0 : sv r 0 = 0 := by unfold sv; cases r <;> rfl
   rw [e0] at hw
   rw [Nat.pow_add,Nat.pow_add,← Nat.mul_assoc,← Nat.mul_assoc,← sv_mul s (m * 2 ^ i),← sv_mul s' (m' * 2 ^ j),← Int.add_mul,← hw]
   simp [sv]
  ·omega
 ·rcases Q with ⟨h1,_⟩ | ⟨z',_,hz',_,Q⟩
  ·omega
  ·obtain rfl := hz.uniq hz'
   rcases P with ⟨p1,p2,P⟩ | ⟨p1,P⟩ <;> rcases Q with ⟨q1,q2,Q⟩ | ⟨q1,Q⟩
   ·refine ⟨0,r,v / 2 ^ z,t + (z : Int),P,by rw [hr h0]; exact Q,Or.inl ⟨rfl,t,i,j,z,hi,hj,by omega,?_⟩⟩
    rw [hz.down.2]; exact hw
   ·omega
   ·omega
   ·exact ⟨4,false,0,0,P,Q,Or.inr ⟨rfl,rfl,rfl,rfl⟩⟩
theorem sv_zero (s : Bool) : sv s 0 = 0 := by unfold sv; cases s <;> rfl
theorem add_two {s : Bool} {m : Nat} {x : Int} {s' : Bool} {m' : Nat} {x' : Int} (hA : OkD s m x) (hB : OkD s' m' x') :
  ∃ er q v0 y,Sums s m x s' m' x' er q v0 y ∧ Sums s' m' x' s m x er q v0 y ∧ ((er = 0 ∧ Worth s m x s' m' x' q v0 y) ∨ (er = 4 ∧ q = false ∧ v0 = 0 ∧ y = 0)) := by
 have left : ∀ {s : Bool} {m : Nat} {x : Int} {s' : Bool} {m' : Nat} {x' : Int},OkD s m x → OkD s' m' x' → m = 0 → Sums s m x s' m' x' 0 s' m' x' := fun hA hB h0 W A N C A' N' C' g g' _ => by
  obtain rfl := g.zero.2 h0
  refine (Add_left _ A C _ _ _ A' N' C' _ _ W ⟨g,hA⟩ ⟨g',hB⟩).mono ?_
  rintro e w' ⟨⟨A,N,C,rfl,h1⟩,hb⟩
  exact ⟨⟨A,N,C,rfl,h1.num⟩,hb⟩
 have right : ∀ {s : Bool} {m : Nat} {x : Int} {s' : Bool} {m' : Nat} {x' : Int},OkD s m x → OkD s' m' x' → 0 < m → m' = 0 → Sums s m x s' m' x' 0 s m x := fun hA hB hp h0 W A N C A' N' C' g g' _ => by
  obtain rfl := g'.zero.2 h0
  refine (Add_right _ A N C _ _ _ A' C' _ _ W ⟨g,hA⟩ ⟨g',hB⟩ (by have := g.zero; omega)).mono ?_
  rintro e w' ⟨⟨A,N,C,rfl,h1⟩,hb⟩
  exact ⟨⟨A,N,C,rfl,h1.num⟩,hb⟩
 obtain ⟨t,ht⟩ : ∃ t,min x x' = t := ⟨_,rfl⟩
 obtain ⟨i,hi⟩ : ∃ i : Nat,x - t = (i : Int) := ⟨(x - t).toNat,by omega⟩
 obtain ⟨j,hj⟩ : ∃ j : Nat,x' - t = (j : Int) := ⟨(x' - t).toNat,by omega⟩
 rcases Nat.eq_zero_or_pos m with hm0 | hm0
 ·refine ⟨0,s',m',x',left hA hB hm0,?_,Or.inl ⟨rfl,t,i,j,j,hi,hj,hj,by rw [hm0,Nat.zero_mul,sv_zero,Int.zero_add]⟩⟩
  rcases Nat.eq_zero_or_pos m' with h' | h'
  ·have e1 : s = s' ∧ m = m' ∧ x = x' := by
    rcases hA with ⟨a1,a2,a3⟩ | ⟨a1,_⟩ <;> rcases hB with ⟨b1,b2,b3⟩ | ⟨b1,_⟩
    ·exact ⟨by rw [a2,b2],by omega,by omega⟩
    ·omega
    ·omega
    ·omega
   obtain ⟨rfl,rfl,rfl⟩ := e1
   exact left hB hA h'
  ·exact right hB hA h' hm0
 rcases Nat.eq_zero_or_pos m' with hm' | hm'
 ·exact ⟨0,s,m,x,right hA hB hm0 hm',left hB hA hm',Or.inl ⟨rfl,t,i,j,i,hi,hj,hi,by rw [hm',Nat.zero_mul,sv_zero,Int.add_zero]⟩⟩
 have a1 : m % 2 = 1 ∧ -1073741824 ≤ x ∧ x ≤ 1073741824 := by
  rcases hA with ⟨h,_⟩ | h
  ·omega
  ·exact h
 have b1 : m' % 2 = 1 ∧ -1073741824 ≤ x' ∧ x' ≤ 1073741824 := by
  rcases hB with ⟨h,_⟩ | h
  ·omega
  ·exact h
 have hp : ∀ {W : World} {A : Option Addr} {N : Nat},Num W A N m → 0 < N := fun g => by have := g.zero; omega
 have hp' : ∀ {W : World} {A : Option Addr} {N : Nat},Num W A N m' → 0 < N := fun g => by have := g.zero; omega
 have ht' : min x' x = t := by omega
 by_cases ho : Over (m * 2 ^ i)
 ·refine ⟨4,false,0,0,Sums.many fun W A N C A' N' C' g g' _ => ?_,Sums.many fun W A N C A' N' C' g g' _ => ?_,Or.inr ⟨rfl,rfl,rfl,rfl⟩⟩
  ·rcases Nat.eq_zero_or_pos i with h0 | h0
   ·subst h0
    rw [Nat.pow_zero,Nat.mul_one] at ho
    exact absurd g.lt (Nat.not_lt.2 ho.le)
   ·exact Add_over s A N C m x s' A' N' C' m' x' t i W ⟨g,hA⟩ ⟨g',hB⟩ (hp g) (hp' g') ht hi h0 (by omega) ho
  ·rcases Nat.eq_zero_or_pos i with h0 | h0
   ·subst h0
    rw [Nat.pow_zero,Nat.mul_one] at ho
    exact absurd g'.lt (Nat.not_lt.2 ho.le)
   ·exact Add_over2 s' A N C m' x' s A' N' C' m x i W ⟨g,hB⟩ ⟨g',hA⟩ (hp' g) (hp g') (by omega) (by omega) h0 (by omega) ho
 by_cases ho' : Over (m' * 2 ^ j)
 ·refine ⟨4,false,0,0,Sums.many fun W A N C A' N' C' g g' _ => ?_,Sums.many fun W A N C A' N' C' g g' _ => ?_,Or.inr ⟨rfl,rfl,rfl,rfl⟩⟩
  ·rcases Nat.eq_zero_or_pos j with h0 | h0
   ·subst h0
    rw [Nat.pow_zero,Nat.mul_one] at ho'
    exact absurd g'.lt (Nat.not_lt.2 ho'.le)
   ·exact Add_over2 s A N C m x s' A' N' C' m' x' j W ⟨g,hA⟩ ⟨g',hB⟩ (hp g) (hp' g') (by omega) (by omega) h0 (by omega) ho'
  ·rcases Nat.eq_zero_or_pos j with h0 | h0
   ·subst h0
    rw [Nat.pow_zero,Nat.mul_one] at ho'
    exact absurd g.lt (Nat.not_lt.2 ho'.le)
   ·exact Add_over s' A N C m' x' s A' N' C' m x t j W ⟨g,hB⟩ ⟨g',hA⟩ (hp' g) (hp g') ht' hj h0 (by omega) ho'
 have hlt : ∀ {v : Nat},¬ Over v → v < 4294967296 ^ Pl.top := fun h => Nat.lt_of_not_le fun hle => h ⟨hle⟩
 have hu := hlt ho
 have hu' := hlt ho'
 by_cases hs : s = s'
 ·subst hs
  by_cases hov : Over (m * 2 ^ i + m' * 2 ^ j)
  ·refine ⟨4,false,0,0,Sums.many fun W A N C A' N' C' g g' _ => ?_,Sums.many fun W A N C A' N' C' g g' _ => ?_,Or.inr ⟨rfl,rfl,rfl,rfl⟩⟩
   ·exact Add_sumover s A N C m x A' N' C' m' x' t i j W ⟨g,hA⟩ ⟨g',hB⟩ (hp g) (hp' g') ht hi hj (by omega) (by omega) ho ho' hov
   ·exact Add_sumover s A N C m' x' A' N' C' m x t j i W ⟨g,hB⟩ ⟨g',hA⟩ (hp' g) (hp g') ht' hj hi (by omega) (by omega) ho' ho (by rw [Nat.add_comm]; exact hov)
  ·refine sums_pair (r := s) (r' := s) (v := m * 2 ^ i + m' * 2 ^ j) hi hj (fun _ => rfl) ?_ (Sums.of a1 b1 ht hi hj ho ho' (fun W A N C A' N' C' g g' => addS_same s A N C _ A' N' C' _ W g g' hov) (hlt hov)) (Sums.of b1 a1 ht' hj hi ho' ho (fun W A N C A' N' C' g g' => by rw [Nat.add_comm (m * 2 ^ i)]; exact addS_same s A N C _ A' N' C' _ W g g' (by rw [Nat.add_comm]; exact hov)) (hlt hov))
   unfold sv; cases s <;> simp <;> omega
 ·have hge : ∀ {s s' : Bool} {u u' : Nat},s ≠ s' → u' ≤ u → ∀ (W : World) (A : Option Addr) (N C : Nat) (A' : Option Addr) (N' C' : Nat),Num W A N u → Num W A' N' u' → Calls Tryd.prog 57 #[.bool s,.agg #[.slice A N C],.bool s',.agg #[.slice A' N' C']] W fun e w' => (∃ A N C,e = .returned (.tuple #[.bool s,.agg #[.slice A N C],.int .i64 0]) ∧ Mine w' W.heap.size A N C (u - u')) ∧ Below W.heap.size W w' := fun {s s' u u'} hne hle W A N C A' N' C' g g' => by
   cases s <;> cases s'
   ·exact absurd rfl hne
   ·exact addS_ge_f A N C _ A' N' C' _ W g g' hle
   ·exact addS_ge_t A N C _ A' N' C' _ W g g' hle
   ·exact absurd rfl hne
  have hls : ∀ {s s' : Bool} {u u' : Nat},s ≠ s' → u < u' → ∀ (W : World) (A : Option Addr) (N C : Nat) (A' : Option Addr) (N' C' : Nat),Num W A N u → Num W A' N' u' → Calls Tryd.prog 57 #[.bool s,.agg #[.slice A N C],.bool s',.agg #[.slice A' N' C']] W fun e w' => (∃ A N C,e = .returned (.tuple #[.bool s',.agg #[.slice A N C],.int .i64 0]) ∧ Mine w' W.heap.size A N C (u' - u)) ∧ Below W.heap.size W w' := fun {s s' u u'} hne hlt W A N C A' N' C' g g' => by
   cases s <;> cases s'
   ·exact absurd rfl hne
   ·exact addS_lt_f A N C _ A' N' C' _ W g g' hlt
   ·exact addS_lt_t A N C _ A' N' C' _ W g g' hlt
   ·exact absurd rfl hne
  have hs' : s' ≠ s := fun e => hs e.symm
  generalize hU : m * 2 ^ i = u at *
  generalize hU' : m' * 2 ^ j = u' at *
  rcases Nat.lt_trichotomy u u' with hc | hc | hc
  ·refine sums_pair (r := s') (r' := s') (v := u' - u) hi hj (fun _ => rfl) ?_ (Sums.of a1 b1 ht hi hj (by rw [hU]; exact ho) (by rw [hU']; exact ho') (by rw [hU,hU']; exact hls hs hc) (by omega)) (Sums.of b1 a1 ht' hj hi (by rw [hU']; exact ho') (by rw [hU]; exact ho) (by rw [hU,hU']; exact hge hs' (by omega)) (by omega))
   rw [hU,hU']
   unfold sv; cases s <;> cases s' <;> simp at hs ⊢ <;> omega
  ·refine sums_pair (r := s) (r' := s') (v := u - u') hi hj (fun h => by omega) ?_ (Sums.of a1 b1 ht hi hj (by rw [hU]; exact ho) (by rw [hU']; exact ho') (by rw [hU,hU']; exact hge hs (by omega)) (by omega)) (Sums.of b1 a1 ht' hj hi (by rw [hU']; exact ho') (by rw [hU]; exact ho) (by rw [hU,hU',show u - u' = u' - u from by omega]; exact hge hs' (by omega)) (by omega))
   rw [hU,hU']
   unfold sv; cases s <;> cases s' <;> simp at hs ⊢ <;> omega
  ·refine sums_pair (r := s) (r' := s) (v := u - u') hi hj (fun _ => rfl) ?_ (Sums.of a1 b1 ht hi hj (by rw [hU]; exact ho) (by rw [hU']; exact ho') (by rw [hU,hU']; exact hge hs (by omega)) (by omega)) (Sums.of b1 a1 ht' hj hi (by rw [hU']; exact ho') (by rw [hU]; exact ho) (by rw [hU,hU']; exact hls hs' hc) (by omega))
   rw [hU,hU']
   unfold sv; cases s <;> cases s' <;> simp at hs ⊢ <;> omega
end Go.Proofs.YtjemjhaphannaaaDoor
