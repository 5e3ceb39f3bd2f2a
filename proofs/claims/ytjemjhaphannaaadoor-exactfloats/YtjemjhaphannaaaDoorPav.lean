/- Of what ExactFloatsRow stands on: ExAlive ExFl0 ExFlA. -/
import Derived.Test.YtjemjhaphannaaaDoorPat
import Derived.Test.YtjemjhaphannaaaDoorPau
import Derived.Test.YtjemjhaphannaaaDoorPag
import Derived.Test.YtjemjhaphannaaaDoorPab
import Derived.Laws.Externs
namespace Go.Proofs.YtjemjhaphannaaaDoor
open Go.RowKit
set_option maxHeartbeats 400000 in
theorem Half4  (w : World)  :
  Calls Tryd.prog 19 #[] w fun e w' => e = .returned (.agg #[.int .i64 5,.int .i64 10]) ∧ Below w.heap.size w w' := by
 go_enter Tryd.func19,Tryd.ntmps19
 go_wp2
 exact bodyPost_ret (v := .agg #[.int .i64 5,.int .i64 10]) (by simp [results,Tryd.results19,go_sem]) rfl ⟨rfl,(Fs.one w _ _).fr⟩
set_option maxHeartbeats 400000 in
theorem Double4  (w : World)  :
  Calls Tryd.prog 43 #[] w fun e w' => e = .returned (.agg #[.int .i64 11,.int .i64 52]) ∧ Below w.heap.size w w' := by
 go_enter Tryd.func43,Tryd.ntmps43
 go_wp2
 exact bodyPost_ret (v := .agg #[.int .i64 11,.int .i64 52]) (by simp [results,Tryd.results43,go_sem]) rfl ⟨rfl,(Fs.one w _ _).fr⟩
set_option maxHeartbeats 400000 in
theorem whole_any (s : Bool) (u : Nat) (x : Int) (hu : u < 18446744073709551616) (w : World)  :
  Calls Tryd.prog 16 #[.bool s,.int .u64 u,.int .i64 x] w fun e w' => (∃ A N C,e = .returned (.agg #[.bool s,.slice A N C,.int .i64 x]) ∧ Mine w' w.heap.size A N C u) ∧ Below w.heap.size w w' := by
 go_enter Tryd.func16,Tryd.ntmps16
 go_wp2_with fail
 refine (of_any u _ hu).mono ?_
 rintro e w1 ⟨⟨A1,N1,C1,rfl,f1⟩,hb1⟩
 have hS := (Fs.one w _ _).kept hb1
 obtain ⟨⟨z1_0_0,z1_0_1,z1_0_2,-⟩,-⟩ := hS.cells
 have F1 := hide f1
 clear f1
 have fz0 := hS.frozen (b := w.heap.size) (cs := #[.bool false,.slice none 0 0,.int .i64 0]) (t := 26) (by simp) 0
 have fz1 := hS.frozen (b := w.heap.size) (cs := #[.bool false,.slice none 0 0,.int .i64 0]) (t := 26) (by simp) 1
 have fz2 := hS.frozen (b := w.heap.size) (cs := #[.bool false,.slice none 0 0,.int .i64 0]) (t := 26) (by simp) 2
 go_wp2
 exact bodyPost_ret (v := .agg #[.bool s,.slice A1 N1 C1,.int .i64 x]) (by simp [results,Tryd.results16,go_sem,z1_0_0,z1_0_1,z1_0_2]) rfl ⟨⟨_,_,_,rfl,((((unhide F1).set (by simp) _).set (by simp) _).set (by simp) _).mono (by simp)⟩,((hS.fr.setCell (by simp <;> omega) _).setCell (by simp <;> omega) _).setCell (by simp <;> omega) _⟩
set_option maxHeartbeats 400000 in
theorem dsame_true (a : Option Addr) (n cap m : Nat) (a' : Option Addr) (n' cap' : Nat) (x : Int) (w : World) (h : Num w a n m) (h' : Num w a' n' m) :
  Calls Tryd.prog 41 #[.agg #[.bool true,.slice a n cap,.int .i64 x],.agg #[.bool true,.slice a' n' cap',.int .i64 x]] w fun e w' => e = .returned (.bool true) ∧ Below w.heap.size w w' := by
 have H := hide h
 have H' := hide h'
 clear h h'
 go_enter Tryd.func41,Tryd.ntmps41
 have HC := hide (same_any a a' n n' cap cap' m m _ (((unhide H).alloc (.cells #[.bool true,.slice a n cap,.int .i64 x] 26)).alloc (.cells #[.bool true,.slice a' n' cap',.int .i64 x] 26)) (((unhide H').alloc _).alloc _))
 rw [decide_eq_true (rfl : m = m)] at HC
 go_wp2_with fail
 refine (unhide HC).mono ?_
 rintro e w1 ⟨rfl,hb1⟩
 have hS := (Fs.two w _ _ _ _).kept hb1
 obtain ⟨⟨z1_0_0,z1_0_1,z1_0_2,-⟩,⟨z1_1_0,z1_1_1,z1_1_2,-⟩,-⟩ := hS.cells
 go_wp2
 go_ret
 exact ⟨rfl,hS.fr⟩
set_option maxHeartbeats 400000 in
theorem dsame_false (a : Option Addr) (n cap m : Nat) (a' : Option Addr) (n' cap' : Nat) (x : Int) (w : World) (h : Num w a n m) (h' : Num w a' n' m) :
  Calls Tryd.prog 41 #[.agg #[.bool false,.slice a n cap,.int .i64 x],.agg #[.bool false,.slice a' n' cap',.int .i64 x]] w fun e w' => e = .returned (.bool true) ∧ Below w.heap.size w w' := by
 have H := hide h
 have H' := hide h'
 clear h h'
 go_enter Tryd.func41,Tryd.ntmps41
 have HC := hide (same_any a a' n n' cap cap' m m _ (((unhide H).alloc (.cells #[.bool false,.slice a n cap,.int .i64 x] 26)).alloc (.cells #[.bool false,.slice a' n' cap',.int .i64 x] 26)) (((unhide H').alloc _).alloc _))
 rw [decide_eq_true (rfl : m = m)] at HC
 go_wp2_with fail
 refine (unhide HC).mono ?_
 rintro e w1 ⟨rfl,hb1⟩
 have hS := (Fs.two w _ _ _ _).kept hb1
 obtain ⟨⟨z1_0_0,z1_0_1,z1_0_2,-⟩,⟨z1_1_0,z1_1_1,z1_1_2,-⟩,-⟩ := hS.cells
 go_wp2
 go_ret
 exact ⟨rfl,hS.fr⟩
theorem dsame_any (s : Bool) (a : Option Addr) (n cap m : Nat) (a' : Option Addr) (n' cap' : Nat) (x : Int) (w : World) (h : Num w a n m) (h' : Num w a' n' m) :
  Calls Tryd.prog 41 #[.agg #[.bool s,.slice a n cap,.int .i64 x],.agg #[.bool s,.slice a' n' cap',.int .i64 x]] w fun e w' => e = .returned (.bool true) ∧ Below w.heap.size w w' := by
 cases s
 ·exact dsame_false a n cap m a' n' cap' x w h h'
 ·exact dsame_true a n cap m a' n' cap' x w h h'
theorem aone_wo : Wo 11 52 1023 1023 2251799813685248 6755399441055744 51 (-52) := ⟨⟨1,by decide⟩,Or.inr ⟨by decide,by decide,by decide⟩,by decide,by decide⟩
theorem av_one (w : World) (hT : Tb w) :
  Calls Tryd.prog 18 #[.agg #[.int .i64 11,.int .i64 52],.int .u64 4609434218613702656] w fun e w' => (∃ A N C,e = .returned (.tuple #[.agg #[.bool false,.slice A N C,.int .i64 (-1)],.int .i64 0]) ∧ Mine w' w.heap.size A N C 3) ∧ Below w.heap.size w w' :=
 Value_wo 11 52 1023 4609434218613702656 1023 2251799813685248 false 6755399441055744 51 (-52) w ⟨by decide,by decide,by decide,by decide⟩ (hide (by decide)) ⟨by decide,by decide,by decide⟩ aone_wo hT
theorem av_half (A : Option Addr) (N C : Nat) (w : World) (h : Num w A N 2047) :
  Calls Tryd.prog 39 #[.agg #[.int .i64 5,.int .i64 10],.agg #[.bool false,.slice A N C,.int .i64 5]] w fun e w' => e = .returned (.tuple #[.int .u64 31743,.bool true,.int .i64 0]) ∧ Below w.heap.size w w' :=
 Bits_wo 5 10 15 31743 30 1023 false 2047 0 5 A N C w ⟨by decide,by decide,by decide,by decide⟩ (hide (by decide)) ⟨by decide,by decide,by decide⟩ ⟨⟨1023,by decide⟩,Or.inr ⟨by decide,by decide,by decide⟩,by decide,by decide⟩ h
theorem small_not {v : Nat} (h : v < 2 ^ 64) : ¬ Over v := not_over h (by decide)
theorem num_pos {w : World} {a : Option Addr} {n m : Nat} (h : Num w a n m) (hm : 0 < m) : 0 < n := by have := h.zero; omega
theorem av_add (A : Option Addr) (N C : Nat) (A' : Option Addr) (N' C' : Nat) (w : World) (h : Num w A N 3) (h' : Num w A' N' 3) (hT : Tb w) :
  Calls Tryd.prog 15 #[.agg #[.bool false,.slice A N C,.int .i64 2],.agg #[.bool true,.slice A' N' C',.int .i64 0]] w fun e w' => (∃ A N C,e = .returned (.tuple #[.agg #[.bool false,.slice A N C,.int .i64 0],.int .i64 0]) ∧ Mine w' w.heap.size A N C 9) ∧ Below w.heap.size w w' :=
 Add_num false A N C 3 2 true A' N' C' 3 0 0 2 0 9 0 false w ⟨h,Or.inr ⟨by decide,by decide,by decide⟩⟩ ⟨h',Or.inr ⟨by decide,by decide,by decide⟩⟩ (num_pos h (by decide)) (num_pos h' (by decide)) hT (by decide) (by decide) (by decide) (by decide) (by decide) (small_not (by decide)) (small_not (by decide)) (by decide) ⟨4,by decide⟩ (by decide) (by decide)
  (hide fun W A N C A' N' C' g g' => addS_ge_f A N C _ A' N' C' _ W g g' (by decide))
theorem av_mul (A : Option Addr) (N C : Nat) (A' : Option Addr) (N' C' : Nat) (w : World) (h : Num w A N 3) (h' : Num w A' N' 5) :
  Calls Tryd.prog 44 #[.agg #[.bool false,.slice A N C,.int .i64 (-1)],.agg #[.bool true,.slice A' N' C',.int .i64 4]] w fun e w' => (∃ A N C,e = .returned (.tuple #[.agg #[.bool true,.slice A N C,.int .i64 3],.int .i64 0]) ∧ Mine w' w.heap.size A N C 15) ∧ Below w.heap.size w w' :=
 Mul_ok_ft A N C 3 (-1) A' N' C' 5 4 w ⟨h,Or.inr ⟨by decide,by decide,by decide⟩⟩ ⟨h',Or.inr ⟨by decide,by decide,by decide⟩⟩ (num_pos h (by decide)) (num_pos h' (by decide)) (by decide) (small_not (by decide))
theorem av_cmp (A : Option Addr) (N C : Nat) (A' : Option Addr) (N' C' : Nat) (w : World) (h : Num w A N 1) (h' : Num w A' N' 5) :
  Calls Tryd.prog 17 #[.agg #[.bool true,.slice A N C,.int .i64 3],.agg #[.bool true,.slice A' N' C',.int .i64 1]] w fun e w' => e = .returned (.tuple #[.int .i64 1,.int .i64 0]) ∧ Below w.heap.size w w' := by
 have := Cmp_any true A N C 1 3 true A' N' C' 5 1 1 2 0 w ⟨h,Or.inr ⟨by decide,by decide,by decide⟩⟩ ⟨h',Or.inr ⟨by decide,by decide,by decide⟩⟩ (by decide) (by decide)
 rw [show cmp3 (sv true (1 * 2 ^ 2)) (sv true (5 * 2 ^ 0)) = 1 from by decide] at this
 exact this
set_option maxRecDepth 20000 in
set_option maxHeartbeats 8000000 in
theorem alive_any  (w : World) (hT : Tb w) :
  Calls Tryd.prog 20 #[] w fun e w' => e = .returned (.bool true) ∧ Below w.heap.size w w' := by
 have HT := hide hT
 clear hT
 go_enter Tryd.func20,Tryd.ntmps20
 go_wp2_with fail
 refine (Double4 _).mono ?_
 rintro e w1 ⟨rfl,hb1⟩
 have hS := (Fs.begin w).kept hb1
 have hZ1 := hS.size
 go_wp2_with fail
 refine (av_one _ ((unhide HT).kept hS.fr)).mono ?_
 rintro e w2 ⟨⟨A1,N1,C1,rfl,f1⟩,hb2⟩
 replace hS := hS.kept hb2
 have G1 := hide (f1.mono hZ1)
 clear f1 hZ1
 replace hS := hS.alloc #[.bool false,.slice A1 N1 C1,.int .i64 (-1)] 26
 replace G1 := hide ((unhide G1).alloc (.cells #[.bool false,.slice A1 N1 C1,.int .i64 (-1)] 26))
 go_wp2_with fail
 refine (Half4 _).mono ?_
 rintro e w3 ⟨rfl,hb3⟩
 replace hS := hS.kept hb3
 obtain ⟨⟨z3_0_0,z3_0_1,z3_0_2,-⟩,-⟩ := hS.cells
 replace G1 := hide ((unhide G1).kept hb3)
 have hZ2 := hS.size
 go_wp2_with fail
 refine (whole_any false 2047 5 (by decide) _).mono ?_
 rintro e w4 ⟨⟨A2,N2,C2,rfl,f2⟩,hb4⟩
 replace hS := hS.kept hb4
 clear z3_0_0 z3_0_1 z3_0_2
 obtain ⟨⟨z4_0_0,z4_0_1,z4_0_2,-⟩,-⟩ := hS.cells
 replace G1 := hide ((unhide G1).kept hb4)
 have G2 := hide (f2.mono hZ2)
 clear f2 hZ2
 go_wp2_with fail
 refine (av_half A2 N2 C2 _ (unhide G2).num).mono ?_
 rintro e w5 ⟨rfl,hb5⟩
 replace hS := hS.kept hb5
 clear z4_0_0 z4_0_1 z4_0_2
 obtain ⟨⟨z5_0_0,z5_0_1,z5_0_2,-⟩,-⟩ := hS.cells
 replace G1 := hide ((unhide G1).kept hb5)
 replace G2 := hide ((unhide G2).kept hb5)
 have hZ3 := hS.size
 go_wp2_with fail
 refine (whole_any false 3 2 (by decide) _).mono ?_
 rintro e w6 ⟨⟨A3,N3,C3,rfl,f3⟩,hb6⟩
 replace hS := hS.kept hb6
 clear z5_0_0 z5_0_1 z5_0_2
 obtain ⟨⟨z6_0_0,z6_0_1,z6_0_2,-⟩,-⟩ := hS.cells
 replace G1 := hide ((unhide G1).kept hb6)
 replace G2 := hide ((unhide G2).kept hb6)
 have G3 := hide (f3.mono hZ3)
 clear f3 hZ3
 have hZ4 := hS.size
 go_wp2_with fail
 refine (whole_any true 3 0 (by decide) _).mono ?_
 rintro e w7 ⟨⟨A4,N4,C4,rfl,f4⟩,hb7⟩
 replace hS := hS.kept hb7
 clear z6_0_0 z6_0_1 z6_0_2
 obtain ⟨⟨z7_0_0,z7_0_1,z7_0_2,-⟩,-⟩ := hS.cells
 replace G1 := hide ((unhide G1).kept hb7)
 replace G2 := hide ((unhide G2).kept hb7)
 replace G3 := hide ((unhide G3).kept hb7)
 have G4 := hide (f4.mono hZ4)
 clear f4 hZ4
 have hZ5 := hS.size
 go_wp2_with fail
 refine (av_add A3 N3 C3 A4 N4 C4 _ (unhide G3).num (unhide G4).num ((unhide HT).kept hS.fr)).mono ?_
 rintro e w8 ⟨⟨A5,N5,C5,rfl,f5⟩,hb8⟩
 replace hS := hS.kept hb8
 clear z7_0_0 z7_0_1 z7_0_2
 obtain ⟨⟨z8_0_0,z8_0_1,z8_0_2,-⟩,-⟩ := hS.cells
 replace G1 := hide ((unhide G1).kept hb8)
 replace G2 := hide ((unhide G2).kept hb8)
 replace G3 := hide ((unhide G3).kept hb8)
 replace G4 := hide ((unhide G4).kept hb8)
 have G5 := hide (f5.mono hZ5)
 clear f5 hZ5
 have hltw8_0 : w2.heap.size < w8.heap.size := block_lt (hS.bx ⟨w2.heap.size,#[.bool false,.slice A1 N1 C1,.int .i64 (-1)],26⟩ (by simp))
 replace hS := hS.alloc #[.bool false,.slice A5 N5 C5,.int .i64 0] 26
 replace G1 := hide ((unhide G1).alloc (.cells #[.bool false,.slice A5 N5 C5,.int .i64 0] 26))
 replace G2 := hide ((unhide G2).alloc (.cells #[.bool false,.slice A5 N5 C5,.int .i64 0] 26))
 replace G3 := hide ((unhide G3).alloc (.cells #[.bool false,.slice A5 N5 C5,.int .i64 0] 26))
 replace G4 := hide ((unhide G4).alloc (.cells #[.bool false,.slice A5 N5 C5,.int .i64 0] 26))
 replace G5 := hide ((unhide G5).alloc (.cells #[.bool false,.slice A5 N5 C5,.int .i64 0] 26))
 have hZ6 := hS.size
 go_wp2_with fail
 refine (whole_any false 3 (-1) (by decide) _).mono ?_
 rintro e w9 ⟨⟨A6,N6,C6,rfl,f6⟩,hb9⟩
 replace hS := hS.kept hb9
 clear z8_0_0 z8_0_1 z8_0_2
 obtain ⟨⟨z9_0_0,z9_0_1,z9_0_2,-⟩,⟨z9_1_0,z9_1_1,z9_1_2,-⟩,-⟩ := hS.cells
 replace G1 := hide ((unhide G1).kept hb9)
 replace G2 := hide ((unhide G2).kept hb9)
 replace G3 := hide ((unhide G3).kept hb9)
 replace G4 := hide ((unhide G4).kept hb9)
 replace G5 := hide ((unhide G5).kept hb9)
 have G6 := hide (f6.mono hZ6)
 clear f6 hZ6
 have hZ7 := hS.size
 go_wp2_with fail
 refine (whole_any true 5 4 (by decide) _).mono ?_
 rintro e w10 ⟨⟨A7,N7,C7,rfl,f7⟩,hb10⟩
 replace hS := hS.kept hb10
 clear z9_0_0 z9_0_1 z9_0_2 z9_1_0 z9_1_1 z9_1_2
 obtain ⟨⟨z10_0_0,z10_0_1,z10_0_2,-⟩,⟨z10_1_0,z10_1_1,z10_1_2,-⟩,-⟩ := hS.cells
 replace G1 := hide ((unhide G1).kept hb10)
 replace G2 := hide ((unhide G2).kept hb10)
 replace G3 := hide ((unhide G3).kept hb10)
 replace G4 := hide ((unhide G4).kept hb10)
 replace G5 := hide ((unhide G5).kept hb10)
 replace G6 := hide ((unhide G6).kept hb10)
 have G7 := hide (f7.mono hZ7)
 clear f7 hZ7
 have hZ8 := hS.size
 go_wp2_with fail
 refine (av_mul A6 N6 C6 A7 N7 C7 _ (unhide G6).num (unhide G7).num).mono ?_
 rintro e w11 ⟨⟨A8,N8,C8,rfl,f8⟩,hb11⟩
 replace hS := hS.kept hb11
 clear z10_0_0 z10_0_1 z10_0_2 z10_1_0 z10_1_1 z10_1_2
 obtain ⟨⟨z11_0_0,z11_0_1,z11_0_2,-⟩,⟨z11_1_0,z11_1_1,z11_1_2,-⟩,-⟩ := hS.cells
 replace G1 := hide ((unhide G1).kept hb11)
 replace G2 := hide ((unhide G2).kept hb11)
 replace G3 := hide ((unhide G3).kept hb11)
 replace G4 := hide ((unhide G4).kept hb11)
 replace G5 := hide ((unhide G5).kept hb11)
 replace G6 := hide ((unhide G6).kept hb11)
 replace G7 := hide ((unhide G7).kept hb11)
 have G8 := hide (f8.mono hZ8)
 clear f8 hZ8
 have hltw11_0 : w8.heap.size < w11.heap.size := block_lt (hS.bx ⟨w8.heap.size,#[.bool false,.slice A5 N5 C5,.int .i64 0],26⟩ (by simp))
 have hltw11_1 : w2.heap.size < w11.heap.size := block_lt (hS.bx ⟨w2.heap.size,#[.bool false,.slice A1 N1 C1,.int .i64 (-1)],26⟩ (by simp))
 replace hS := hS.alloc #[.bool true,.slice A8 N8 C8,.int .i64 3] 26
 replace G1 := hide ((unhide G1).alloc (.cells #[.bool true,.slice A8 N8 C8,.int .i64 3] 26))
 replace G2 := hide ((unhide G2).alloc (.cells #[.bool true,.slice A8 N8 C8,.int .i64 3] 26))
 replace G3 := hide ((unhide G3).alloc (.cells #[.bool true,.slice A8 N8 C8,.int .i64 3] 26))
 replace G4 := hide ((unhide G4).alloc (.cells #[.bool true,.slice A8 N8 C8,.int .i64 3] 26))
 replace G5 := hide ((unhide G5).alloc (.cells #[.bool true,.slice A8 N8 C8,.int .i64 3] 26))
 replace G6 := hide ((unhide G6).alloc (.cells #[.bool true,.slice A8 N8 C8,.int .i64 3] 26))
 replace G7 := hide ((unhide G7).alloc (.cells #[.bool true,.slice A8 N8 C8,.int .i64 3] 26))
 replace G8 := hide ((unhide G8).alloc (.cells #[.bool true,.slice A8 N8 C8,.int .i64 3] 26))
 have hZ9 := hS.size
 go_wp2_with fail
 refine (whole_any true 1 3 (by decide) _).mono ?_
 rintro e w12 ⟨⟨A9,N9,C9,rfl,f9⟩,hb12⟩
 replace hS := hS.kept hb12
 clear z11_0_0 z11_0_1 z11_0_2 z11_1_0 z11_1_1 z11_1_2
 obtain ⟨⟨z12_0_0,z12_0_1,z12_0_2,-⟩,⟨z12_1_0,z12_1_1,z12_1_2,-⟩,⟨z12_2_0,z12_2_1,z12_2_2,-⟩,-⟩ := hS.cells
 replace G1 := hide ((unhide G1).kept hb12)
 replace G2 := hide ((unhide G2).kept hb12)
 replace G3 := hide ((unhide G3).kept hb12)
 replace G4 := hide ((unhide G4).kept hb12)
 replace G5 := hide ((unhide G5).kept hb12)
 replace G6 := hide ((unhide G6).kept hb12)
 replace G7 := hide ((unhide G7).kept hb12)
 replace G8 := hide ((unhide G8).kept hb12)
 have G9 := hide (f9.mono hZ9)
 clear f9 hZ9
 have hZ10 := hS.size
 go_wp2_with fail
 refine (whole_any true 5 1 (by decide) _).mono ?_
 rintro e w13 ⟨⟨A10,N10,C10,rfl,f10⟩,hb13⟩
 replace hS := hS.kept hb13
 clear z12_0_0 z12_0_1 z12_0_2 z12_1_0 z12_1_1 z12_1_2 z12_2_0 z12_2_1 z12_2_2
 obtain ⟨⟨z13_0_0,z13_0_1,z13_0_2,-⟩,⟨z13_1_0,z13_1_1,z13_1_2,-⟩,⟨z13_2_0,z13_2_1,z13_2_2,-⟩,-⟩ := hS.cells
 replace G1 := hide ((unhide G1).kept hb13)
 replace G2 := hide ((unhide G2).kept hb13)
 replace G3 := hide ((unhide G3).kept hb13)
 replace G4 := hide ((unhide G4).kept hb13)
 replace G5 := hide ((unhide G5).kept hb13)
 replace G6 := hide ((unhide G6).kept hb13)
 replace G7 := hide ((unhide G7).kept hb13)
 replace G8 := hide ((unhide G8).kept hb13)
 replace G9 := hide ((unhide G9).kept hb13)
 have G10 := hide (f10.mono hZ10)
 clear f10 hZ10
 go_wp2_with fail
 refine (av_cmp A9 N9 C9 A10 N10 C10 _ (unhide G9).num (unhide G10).num).mono ?_
 rintro e w14 ⟨rfl,hb14⟩
 replace hS := hS.kept hb14
 clear z13_0_0 z13_0_1 z13_0_2 z13_1_0 z13_1_1 z13_1_2 z13_2_0 z13_2_1 z13_2_2
 obtain ⟨⟨z14_0_0,z14_0_1,z14_0_2,-⟩,⟨z14_1_0,z14_1_1,z14_1_2,-⟩,⟨z14_2_0,z14_2_1,z14_2_2,-⟩,-⟩ := hS.cells
 replace G1 := hide ((unhide G1).kept hb14)
 replace G2 := hide ((unhide G2).kept hb14)
 replace G3 := hide ((unhide G3).kept hb14)
 replace G4 := hide ((unhide G4).kept hb14)
 replace G5 := hide ((unhide G5).kept hb14)
 replace G6 := hide ((unhide G6).kept hb14)
 replace G7 := hide ((unhide G7).kept hb14)
 replace G8 := hide ((unhide G8).kept hb14)
 replace G9 := hide ((unhide G9).kept hb14)
 replace G10 := hide ((unhide G10).kept hb14)
 go_wp2_with fail
 have hS3s : w.heap.size ≤ w14.heap.size := hS.size
 have hs9 : ∀ x9 : Nat × (Pk → World → Prop),x9 ∈ ([(20,fun q W => Mine W w.heap.size q.A q.N q.C 3),(32,fun q W => Mine W w.heap.size q.A q.N q.C 9),(37,fun q W => Mine W w.heap.size q.A q.N q.C 15),(45,fun _ W => Mine W w.heap.size A1 N1 C1 3),(46,fun _ W => Mine W w.heap.size A5 N5 C5 9),(47,fun _ W => Mine W w.heap.size A8 N8 C8 15)] : List (Nat × (Pk → World → Prop))) → ∀ q9 : Pk,St w.heap.size (x9.2 q9) := by
  intro x hx q
  simp only [List.mem_cons,List.not_mem_nil,or_false] at hx
  rcases hx with rfl | rfl | rfl | rfl | rfl | rfl
  ·exact st_mine _ _ _ _ _
  ·exact st_mine _ _ _ _ _
  ·exact st_mine _ _ _ _ _
  ·exact st_mine _ _ _ _ _
  ·exact st_mine _ _ _ _ _
  ·exact st_mine _ _ _ _ _
 have h09 : ∀ x9 : Nat × (Pk → World → Prop),x9 ∈ ([(20,fun q W => Mine W w.heap.size q.A q.N q.C 3),(32,fun q W => Mine W w.heap.size q.A q.N q.C 9),(37,fun q W => Mine W w.heap.size q.A q.N q.C 15),(45,fun _ W => Mine W w.heap.size A1 N1 C1 3),(46,fun _ W => Mine W w.heap.size A5 N5 C5 9),(47,fun _ W => Mine W w.heap.size A8 N8 C8 15)] : List (Nat × (Pk → World → Prop))) → 45 ≤ x9.1 → x9.2 ⟨none,0,0⟩ w14 := by
  intro x hx hn9
  simp only [List.mem_cons,List.not_mem_nil,or_false] at hx
  rcases hx with rfl | rfl | rfl | rfl | rfl | rfl
  ·exact absurd hn9 (by simp)
  ·exact absurd hn9 (by simp)
  ·exact absurd hn9 (by simp)
  ·exact unhide G1
  ·exact unhide G5
  ·exact unhide G8
 refine wp_region_any (by kernel_rfl) ?_
 refine wpAny_pick (fun p9 => [some (42,.int .i64 0),some (43,.bool true),some (44,.bool true),some (45,.int .i64 0),some (46,.bool true),some (47,.bool true),some (48,.bool true),some (49,.int .i64 0),some (50,.bool true),some (51,.bool true),some (52,.bool true),some (53,.int .i64 0),some (54,.bool true),some (55,.bool true),some (56,.bool true),some (57,.int .i64 0),some (58,.bool true),some (59,.bool true),some (60,.bool true),some (61,.agg #[.bool false,.slice A1 N1 C1,.int .i64 (-1)]),some (62,.agg #[.bool false,.slice (p9 20).A (p9 20).N (p9 20).C,.int .i64 (-1)]),some (63,.bool true),some (64,.bool true),some (65,.bool true),some (66,.int .u64 31743),some (67,.bool true),some (68,.bool true),some (69,.bool true),some (70,.bool true),some (71,.bool true),some (72,.bool true),some (73,.agg #[.bool false,.slice A5 N5 C5,.int .i64 0]),some (74,.agg #[.bool false,.slice (p9 32).A (p9 32).N (p9 32).C,.int .i64 0]),some (75,.bool true),some (76,.bool true),some (77,.bool true),some (78,.agg #[.bool true,.slice A8 N8 C8,.int .i64 3]),some (79,.agg #[.bool true,.slice (p9 37).A (p9 37).N (p9 37).C,.int .i64 3]),some (80,.bool true),some (81,.bool true),some (82,.bool true),some (83,.int .i64 1),some (84,.bool true),some (85,.bool true),some (0,.bool true)])
  (fun p9 l9 W9 => Pm w w.heap.size [(20,fun q W => Mine W w.heap.size q.A q.N q.C 3),(32,fun q W => Mine W w.heap.size q.A q.N q.C 9),(37,fun q W => Mine W w.heap.size q.A q.N q.C 15),(45,fun _ W => Mine W w.heap.size A1 N1 C1 3),(46,fun _ W => Mine W w.heap.size A5 N5 C5 9),(47,fun _ W => Mine W w.heap.size A8 N8 C8 15)] p9 l9 W9 [⟨w11.heap.size,#[.bool true,.slice A8 N8 C8,.int .i64 3],26⟩,⟨w8.heap.size,#[.bool false,.slice A5 N5 C5,.int .i64 0],26⟩,⟨w2.heap.size,#[.bool false,.slice A1 N1 C1,.int .i64 (-1)],26⟩]) _ _ (fun _ => rfl) (by kernel_rfl) (fun _ => rfl) (fun _ => rfl) ?_ ?_ (fun _ => ⟨none,0,0⟩) (Pm.start2 hS _ _ _ (hS.size) hs9 h09)
 ·intro p9 l9 t9 W9 i9 hD hi9 hl9 hM
  obtain ⟨o9,ho9,hd9⟩ := (mem_ready.1 hi9).2
  have hin9 : i9 < 45 := by
   by_cases h : i9 < 45
   ·exact h
   ·rw [Array.getElem?_eq_none (by rw [hD.len]; simp; omega)] at hl9; cases hl9
  have hcase : i9 = 0 ∨ i9 = 1 ∨ i9 = 2 ∨ i9 = 3 ∨ i9 = 4 ∨ i9 = 5 ∨ i9 = 6 ∨ i9 = 7 ∨ i9 = 8 ∨ i9 = 9 ∨ i9 = 10 ∨ i9 = 11 ∨ i9 = 12 ∨ i9 = 13 ∨ i9 = 14 ∨ i9 = 15 ∨ i9 = 16 ∨ i9 = 17 ∨ i9 = 18 ∨ i9 = 19 ∨ i9 = 20 ∨ i9 = 21 ∨ i9 = 22 ∨ i9 = 23 ∨ i9 = 24 ∨ i9 = 25 ∨ i9 = 26 ∨ i9 = 27 ∨ i9 = 28 ∨ i9 = 29 ∨ i9 = 30 ∨ i9 = 31 ∨ i9 = 32 ∨ i9 = 33 ∨ i9 = 34 ∨ i9 = 35 ∨ i9 = 36 ∨ i9 = 37 ∨ i9 = 38 ∨ i9 = 39 ∨ i9 = 40 ∨ i9 = 41 ∨ i9 = 42 ∨ i9 = 43 ∨ i9 = 44 := by omega
  clear hin9
  rcases hcase with rfl | rfl | rfl | rfl | rfl | rfl | rfl | rfl | rfl | rfl | rfl | rfl | rfl | rfl | rfl | rfl | rfl | rfl | rfl | rfl | rfl | rfl | rfl | rfl | rfl | rfl | rfl | rfl | rfl | rfl | rfl | rfl | rfl | rfl | rfl | rfl | rfl | rfl | rfl | rfl | rfl | rfl | rfl | rfl | rfl
  ·cases ho9
   have r2 := hD.old 2 _ rfl rfl
   clear hD hd9 hi9
   refine wpOp_step rfl (fun K hK => ?_)
   go_simp
   exact hK _ _ ⟨p9,fun _ _ => rfl,rfl,(hM.val rfl)⟩
  ·cases ho9
   have r42 := hD.on 0 42 _ rfl (getD_true (hd9 ⟨0,.data⟩ (by simp) rfl))
   clear hD hd9 hi9
   refine wpOp_step rfl (fun K hK => ?_)
   go_simp
   exact hK _ _ ⟨p9,fun _ _ => rfl,act_eq (by rfl),(hM.val rfl)⟩
  ·cases ho9
   have r43 := hD.on 1 43 _ rfl (getD_true (hd9 ⟨1,.data⟩ (by simp) rfl))
   clear hD hd9 hi9
   refine wpOp_step rfl (fun K hK => ?_)
   go_simp
   exact hK _ _ ⟨p9,fun _ _ => rfl,rfl,(hM.val rfl)⟩
  ·cases ho9
   have r44 := hD.on 2 44 _ rfl (getD_true (hd9 ⟨2,.guard⟩ (by simp) rfl))
   have r5 := hD.old 5 _ rfl rfl
   clear hD hd9 hi9
   refine wpOp_step rfl (fun K hK => ?_)
   go_simp
   exact hK _ _ ⟨p9,fun _ _ => rfl,rfl,(hM.val rfl)⟩
  ·cases ho9
   have r44 := hD.on 2 44 _ rfl (getD_true (hd9 ⟨2,.guard⟩ (by simp) rfl))
   have r45 := hD.on 3 45 _ rfl (getD_true (hd9 ⟨3,.data⟩ (by simp) rfl))
   clear hD hd9 hi9
   refine wpOp_step rfl (fun K hK => ?_)
   go_simp
   exact hK _ _ ⟨p9,fun _ _ => rfl,act_eq (by rfl),(hM.val rfl)⟩
  ·cases ho9
   have r44 := hD.on 2 44 _ rfl (getD_true (hd9 ⟨2,.data⟩ (by simp) rfl))
   have r46 := hD.on 4 46 _ rfl (getD_true (hd9 ⟨4,.data⟩ (by simp) rfl))
   clear hD hd9 hi9
   refine wpOp_step rfl (fun K hK => ?_)
   go_simp
   exact hK _ _ ⟨p9,fun _ _ => rfl,rfl,(hM.val rfl)⟩
  ·cases ho9
   have r47 := hD.on 5 47 _ rfl (getD_true (hd9 ⟨5,.data⟩ (by simp) rfl))
   clear hD hd9 hi9
   refine wpOp_step rfl (fun K hK => ?_)
   go_simp
   exact hK _ _ ⟨p9,fun _ _ => rfl,rfl,(hM.val rfl)⟩
  ·cases ho9
   have r48 := hD.on 6 48 _ rfl (getD_true (hd9 ⟨6,.guard⟩ (by simp) rfl))
   have r7 := hD.old 7 _ rfl rfl
   clear hD hd9 hi9
   refine wpOp_step rfl (fun K hK => ?_)
   go_simp
   exact hK _ _ ⟨p9,fun _ _ => rfl,rfl,(hM.val rfl)⟩
  ·cases ho9
   have r48 := hD.on 6 48 _ rfl (getD_true (hd9 ⟨6,.guard⟩ (by simp) rfl))
   have r49 := hD.on 7 49 _ rfl (getD_true (hd9 ⟨7,.data⟩ (by simp) rfl))
   clear hD hd9 hi9
   refine wpOp_step rfl (fun K hK => ?_)
   go_simp
   exact hK _ _ ⟨p9,fun _ _ => rfl,act_eq (by rfl),(hM.val rfl)⟩
  ·cases ho9
   have r48 := hD.on 6 48 _ rfl (getD_true (hd9 ⟨6,.data⟩ (by simp) rfl))
   have r50 := hD.on 8 50 _ rfl (getD_true (hd9 ⟨8,.data⟩ (by simp) rfl))
   clear hD hd9 hi9
   refine wpOp_step rfl (fun K hK => ?_)
   go_simp
   exact hK _ _ ⟨p9,fun _ _ => rfl,rfl,(hM.val rfl)⟩
  ·cases ho9
   have r51 := hD.on 9 51 _ rfl (getD_true (hd9 ⟨9,.data⟩ (by simp) rfl))
   clear hD hd9 hi9
   refine wpOp_step rfl (fun K hK => ?_)
   go_simp
   exact hK _ _ ⟨p9,fun _ _ => rfl,rfl,(hM.val rfl)⟩
  ·cases ho9
   have r52 := hD.on 10 52 _ rfl (getD_true (hd9 ⟨10,.guard⟩ (by simp) rfl))
   have r9 := hD.old 9 _ rfl rfl
   clear hD hd9 hi9
   refine wpOp_step rfl (fun K hK => ?_)
   go_simp
   exact hK _ _ ⟨p9,fun _ _ => rfl,rfl,(hM.val rfl)⟩
  ·cases ho9
   have r52 := hD.on 10 52 _ rfl (getD_true (hd9 ⟨10,.guard⟩ (by simp) rfl))
   have r53 := hD.on 11 53 _ rfl (getD_true (hd9 ⟨11,.data⟩ (by simp) rfl))
   clear hD hd9 hi9
   refine wpOp_step rfl (fun K hK => ?_)
   go_simp
   exact hK _ _ ⟨p9,fun _ _ => rfl,act_eq (by rfl),(hM.val rfl)⟩
  ·cases ho9
   have r52 := hD.on 10 52 _ rfl (getD_true (hd9 ⟨10,.data⟩ (by simp) rfl))
   have r54 := hD.on 12 54 _ rfl (getD_true (hd9 ⟨12,.data⟩ (by simp) rfl))
   clear hD hd9 hi9
   refine wpOp_step rfl (fun K hK => ?_)
   go_simp
   exact hK _ _ ⟨p9,fun _ _ => rfl,rfl,(hM.val rfl)⟩
  ·cases ho9
   have r55 := hD.on 13 55 _ rfl (getD_true (hd9 ⟨13,.data⟩ (by simp) rfl))
   clear hD hd9 hi9
   refine wpOp_step rfl (fun K hK => ?_)
   go_simp
   exact hK _ _ ⟨p9,fun _ _ => rfl,rfl,(hM.val rfl)⟩
  ·cases ho9
   have r56 := hD.on 14 56 _ rfl (getD_true (hd9 ⟨14,.guard⟩ (by simp) rfl))
   have r11 := hD.old 11 _ rfl rfl
   clear hD hd9 hi9
   refine wpOp_step rfl (fun K hK => ?_)
   go_simp
   exact hK _ _ ⟨p9,fun _ _ => rfl,rfl,(hM.val rfl)⟩
  ·cases ho9
   have r56 := hD.on 14 56 _ rfl (getD_true (hd9 ⟨14,.guard⟩ (by simp) rfl))
   have r57 := hD.on 15 57 _ rfl (getD_true (hd9 ⟨15,.data⟩ (by simp) rfl))
   clear hD hd9 hi9
   refine wpOp_step rfl (fun K hK => ?_)
   go_simp
   exact hK _ _ ⟨p9,fun _ _ => rfl,act_eq (by rfl),(hM.val rfl)⟩
  ·cases ho9
   have r56 := hD.on 14 56 _ rfl (getD_true (hd9 ⟨14,.data⟩ (by simp) rfl))
   have r58 := hD.on 16 58 _ rfl (getD_true (hd9 ⟨16,.data⟩ (by simp) rfl))
   clear hD hd9 hi9
   refine wpOp_step rfl (fun K hK => ?_)
   go_simp
   exact hK _ _ ⟨p9,fun _ _ => rfl,rfl,(hM.val rfl)⟩
  ·cases ho9
   have r59 := hD.on 17 59 _ rfl (getD_true (hd9 ⟨17,.data⟩ (by simp) rfl))
   clear hD hd9 hi9
   refine wpOp_step rfl (fun K hK => ?_)
   go_simp
   exact hK _ _ ⟨p9,fun _ _ => rfl,rfl,(hM.val rfl)⟩
  ·cases ho9
   have r60 := hD.on 18 60 _ rfl (getD_true (hd9 ⟨18,.guard⟩ (by simp) rfl))
   have r1 := hD.old 1 _ rfl rfl
   have hM0 := hM.st
   have c9_0 := hM0.cellAt (b := w2.heap.size) (cs := #[.bool false,.slice A1 N1 C1,.int .i64 (-1)]) (t := 26) (by simp) 0 _ rfl
   have c9_1 := hM0.cellAt (b := w2.heap.size) (cs := #[.bool false,.slice A1 N1 C1,.int .i64 (-1)]) (t := 26) (by simp) 1 _ rfl
   have c9_2 := hM0.cellAt (b := w2.heap.size) (cs := #[.bool false,.slice A1 N1 C1,.int .i64 (-1)]) (t := 26) (by simp) 2 _ rfl
   clear hM0
   clear hD hd9 hi9
   refine wpOp_step rfl (fun K hK => ?_)
   go_simp
   exact hK _ _ ⟨p9,fun _ _ => rfl,rfl,(hM.val rfl)⟩
  ·cases ho9
   have r60 := hD.on 18 60 _ rfl (getD_true (hd9 ⟨18,.chain⟩ (by simp) rfl))
   have ga0 := hM.fx _ (List.mem_of_getElem? (i := 3) rfl) (Or.inr (by rw [hD.len]; simp))
   simp only [] at ga0
   have ga1 := hM.fx _ (List.mem_of_getElem? (i := 4) rfl) (Or.inr (by rw [hD.len]; simp))
   simp only [] at ga1
   have ga2 := hM.fx _ (List.mem_of_getElem? (i := 5) rfl) (Or.inr (by rw [hD.len]; simp))
   simp only [] at ga2
   have HD := hide hD
   clear hD hd9 hi9
   refine wpOp_step rfl (fun K hK => ?_)
   go_simp
   go_wp2_with fail
   refine (whole_any false 3 (-1) (by decide) _).mono ?_
   rintro en w9 ⟨⟨a9,n9,c9,rfl,h9⟩,hb9⟩
   refine hK _ _ ⟨p9.set 20 ⟨a9,n9,c9⟩,?_,rfl,((hM.kept hs9 hb9).pick ⟨a9,n9,c9⟩ ?_)⟩
   ·intro k9 hk9
    clear hM hK
    match k9,hk9 with
    | 0,_ => rfl
    | 1,_ => rfl
    | 2,_ => rfl
    | 3,_ => rfl
    | 4,_ => rfl
    | 5,_ => rfl
    | 6,_ => rfl
    | 7,_ => rfl
    | 8,_ => rfl
    | 9,_ => rfl
    | 10,_ => rfl
    | 11,_ => rfl
    | 12,_ => rfl
    | 13,_ => rfl
    | 14,_ => rfl
    | 15,_ => rfl
    | 16,_ => rfl
    | 17,_ => rfl
    | 18,_ => rfl
    | 19,_ => rfl
    | 20,hk9 => exact absurd (hl9.symm.trans hk9) (by simp)
    | 21,hk9 => exact absurd (hl9.symm.trans (getD_true ((unhide HD).shut 21 _ (hk9) rfl ⟨20,.data⟩ (by simp) rfl))) (by simp)
    | 22,hk9 => exact absurd (hl9.symm.trans (getD_true ((unhide HD).shut 21 _ (getD_true ((unhide HD).shut 22 _ (hk9) rfl ⟨21,.data⟩ (by simp) rfl)) rfl ⟨20,.data⟩ (by simp) rfl))) (by simp)
    | 23,hk9 => exact absurd (hl9.symm.trans (getD_true ((unhide HD).shut 21 _ (getD_true ((unhide HD).shut 23 _ (hk9) rfl ⟨21,.chain⟩ (by simp) rfl)) rfl ⟨20,.data⟩ (by simp) rfl))) (by simp)
    | 24,hk9 => exact absurd (hl9.symm.trans (getD_true ((unhide HD).shut 21 _ (getD_true ((unhide HD).shut 23 _ (getD_true ((unhide HD).shut 24 _ (hk9) rfl ⟨23,.guard⟩ (by simp) rfl)) rfl ⟨21,.chain⟩ (by simp) rfl)) rfl ⟨20,.data⟩ (by simp) rfl))) (by simp)
    | 25,hk9 => exact absurd (hl9.symm.trans (getD_true ((unhide HD).shut 21 _ (getD_true ((unhide HD).shut 23 _ (getD_true ((unhide HD).shut 25 _ (hk9) rfl ⟨23,.guard⟩ (by simp) rfl)) rfl ⟨21,.chain⟩ (by simp) rfl)) rfl ⟨20,.data⟩ (by simp) rfl))) (by simp)
    | 26,hk9 => exact absurd (hl9.symm.trans (getD_true ((unhide HD).shut 21 _ (getD_true ((unhide HD).shut 23 _ (getD_true ((unhide HD).shut 26 _ (hk9) rfl ⟨23,.data⟩ (by simp) rfl)) rfl ⟨21,.chain⟩ (by simp) rfl)) rfl ⟨20,.data⟩ (by simp) rfl))) (by simp)
    | 27,hk9 => exact absurd (hl9.symm.trans (getD_true ((unhide HD).shut 21 _ (getD_true ((unhide HD).shut 23 _ (getD_true ((unhide HD).shut 27 _ (hk9) rfl ⟨23,.chain⟩ (by simp) rfl)) rfl ⟨21,.chain⟩ (by simp) rfl)) rfl ⟨20,.data⟩ (by simp) rfl))) (by simp)
    | 28,hk9 => exact absurd (hl9.symm.trans (getD_true ((unhide HD).shut 21 _ (getD_true ((unhide HD).shut 23 _ (getD_true ((unhide HD).shut 27 _ (getD_true ((unhide HD).shut 28 _ (hk9) rfl ⟨27,.guard⟩ (by simp) rfl)) rfl ⟨23,.chain⟩ (by simp) rfl)) rfl ⟨21,.chain⟩ (by simp) rfl)) rfl ⟨20,.data⟩ (by simp) rfl))) (by simp)
    | 29,hk9 => exact absurd (hl9.symm.trans (getD_true ((unhide HD).shut 21 _ (getD_true ((unhide HD).shut 23 _ (getD_true ((unhide HD).shut 27 _ (getD_true ((unhide HD).shut 29 _ (hk9) rfl ⟨27,.data⟩ (by simp) rfl)) rfl ⟨23,.chain⟩ (by simp) rfl)) rfl ⟨21,.chain⟩ (by simp) rfl)) rfl ⟨20,.data⟩ (by simp) rfl))) (by simp)
    | 30,hk9 => exact absurd (hl9.symm.trans (getD_true ((unhide HD).shut 21 _ (getD_true ((unhide HD).shut 23 _ (getD_true ((unhide HD).shut 27 _ (getD_true ((unhide HD).shut 30 _ (hk9) rfl ⟨27,.chain⟩ (by simp) rfl)) rfl ⟨23,.chain⟩ (by simp) rfl)) rfl ⟨21,.chain⟩ (by simp) rfl)) rfl ⟨20,.data⟩ (by simp) rfl))) (by simp)
    | 31,hk9 => exact absurd (hl9.symm.trans (getD_true ((unhide HD).shut 21 _ (getD_true ((unhide HD).shut 23 _ (getD_true ((unhide HD).shut 27 _ (getD_true ((unhide HD).shut 30 _ (getD_true ((unhide HD).shut 31 _ (hk9) rfl ⟨30,.guard⟩ (by simp) rfl)) rfl ⟨27,.chain⟩ (by simp) rfl)) rfl ⟨23,.chain⟩ (by simp) rfl)) rfl ⟨21,.chain⟩ (by simp) rfl)) rfl ⟨20,.data⟩ (by simp) rfl))) (by simp)
    | 32,hk9 => exact absurd (hl9.symm.trans (getD_true ((unhide HD).shut 21 _ (getD_true ((unhide HD).shut 23 _ (getD_true ((unhide HD).shut 27 _ (getD_true ((unhide HD).shut 30 _ (getD_true ((unhide HD).shut 32 _ (hk9) rfl ⟨30,.chain⟩ (by simp) rfl)) rfl ⟨27,.chain⟩ (by simp) rfl)) rfl ⟨23,.chain⟩ (by simp) rfl)) rfl ⟨21,.chain⟩ (by simp) rfl)) rfl ⟨20,.data⟩ (by simp) rfl))) (by simp)
    | 33,hk9 => exact absurd (hl9.symm.trans (getD_true ((unhide HD).shut 21 _ (getD_true ((unhide HD).shut 23 _ (getD_true ((unhide HD).shut 27 _ (getD_true ((unhide HD).shut 30 _ (getD_true ((unhide HD).shut 33 _ (hk9) rfl ⟨30,.guard⟩ (by simp) rfl)) rfl ⟨27,.chain⟩ (by simp) rfl)) rfl ⟨23,.chain⟩ (by simp) rfl)) rfl ⟨21,.chain⟩ (by simp) rfl)) rfl ⟨20,.data⟩ (by simp) rfl))) (by simp)
    | 34,hk9 => exact absurd (hl9.symm.trans (getD_true ((unhide HD).shut 21 _ (getD_true ((unhide HD).shut 23 _ (getD_true ((unhide HD).shut 27 _ (getD_true ((unhide HD).shut 30 _ (getD_true ((unhide HD).shut 34 _ (hk9) rfl ⟨30,.data⟩ (by simp) rfl)) rfl ⟨27,.chain⟩ (by simp) rfl)) rfl ⟨23,.chain⟩ (by simp) rfl)) rfl ⟨21,.chain⟩ (by simp) rfl)) rfl ⟨20,.data⟩ (by simp) rfl))) (by simp)
    | 35,hk9 => exact absurd (hl9.symm.trans (getD_true ((unhide HD).shut 21 _ (getD_true ((unhide HD).shut 23 _ (getD_true ((unhide HD).shut 27 _ (getD_true ((unhide HD).shut 30 _ (getD_true ((unhide HD).shut 34 _ (getD_true ((unhide HD).shut 35 _ (hk9) rfl ⟨34,.data⟩ (by simp) rfl)) rfl ⟨30,.data⟩ (by simp) rfl)) rfl ⟨27,.chain⟩ (by simp) rfl)) rfl ⟨23,.chain⟩ (by simp) rfl)) rfl ⟨21,.chain⟩ (by simp) rfl)) rfl ⟨20,.data⟩ (by simp) rfl))) (by simp)
    | 36,hk9 => exact absurd (hl9.symm.trans (getD_true ((unhide HD).shut 21 _ (getD_true ((unhide HD).shut 23 _ (getD_true ((unhide HD).shut 27 _ (getD_true ((unhide HD).shut 30 _ (getD_true ((unhide HD).shut 34 _ (getD_true ((unhide HD).shut 35 _ (getD_true ((unhide HD).shut 36 _ (hk9) rfl ⟨35,.guard⟩ (by simp) rfl)) rfl ⟨34,.data⟩ (by simp) rfl)) rfl ⟨30,.data⟩ (by simp) rfl)) rfl ⟨27,.chain⟩ (by simp) rfl)) rfl ⟨23,.chain⟩ (by simp) rfl)) rfl ⟨21,.chain⟩ (by simp) rfl)) rfl ⟨20,.data⟩ (by simp) rfl))) (by simp)
    | 37,hk9 => exact absurd (hl9.symm.trans (getD_true ((unhide HD).shut 21 _ (getD_true ((unhide HD).shut 23 _ (getD_true ((unhide HD).shut 27 _ (getD_true ((unhide HD).shut 30 _ (getD_true ((unhide HD).shut 34 _ (getD_true ((unhide HD).shut 35 _ (getD_true ((unhide HD).shut 37 _ (hk9) rfl ⟨35,.chain⟩ (by simp) rfl)) rfl ⟨34,.data⟩ (by simp) rfl)) rfl ⟨30,.data⟩ (by simp) rfl)) rfl ⟨27,.chain⟩ (by simp) rfl)) rfl ⟨23,.chain⟩ (by simp) rfl)) rfl ⟨21,.chain⟩ (by simp) rfl)) rfl ⟨20,.data⟩ (by simp) rfl))) (by simp)
    | 38,hk9 => exact absurd (hl9.symm.trans (getD_true ((unhide HD).shut 21 _ (getD_true ((unhide HD).shut 23 _ (getD_true ((unhide HD).shut 27 _ (getD_true ((unhide HD).shut 30 _ (getD_true ((unhide HD).shut 34 _ (getD_true ((unhide HD).shut 35 _ (getD_true ((unhide HD).shut 38 _ (hk9) rfl ⟨35,.guard⟩ (by simp) rfl)) rfl ⟨34,.data⟩ (by simp) rfl)) rfl ⟨30,.data⟩ (by simp) rfl)) rfl ⟨27,.chain⟩ (by simp) rfl)) rfl ⟨23,.chain⟩ (by simp) rfl)) rfl ⟨21,.chain⟩ (by simp) rfl)) rfl ⟨20,.data⟩ (by simp) rfl))) (by simp)
    | 39,hk9 => exact absurd (hl9.symm.trans (getD_true ((unhide HD).shut 21 _ (getD_true ((unhide HD).shut 23 _ (getD_true ((unhide HD).shut 27 _ (getD_true ((unhide HD).shut 30 _ (getD_true ((unhide HD).shut 34 _ (getD_true ((unhide HD).shut 35 _ (getD_true ((unhide HD).shut 39 _ (hk9) rfl ⟨35,.data⟩ (by simp) rfl)) rfl ⟨34,.data⟩ (by simp) rfl)) rfl ⟨30,.data⟩ (by simp) rfl)) rfl ⟨27,.chain⟩ (by simp) rfl)) rfl ⟨23,.chain⟩ (by simp) rfl)) rfl ⟨21,.chain⟩ (by simp) rfl)) rfl ⟨20,.data⟩ (by simp) rfl))) (by simp)
    | 40,hk9 => exact absurd (hl9.symm.trans (getD_true ((unhide HD).shut 21 _ (getD_true ((unhide HD).shut 23 _ (getD_true ((unhide HD).shut 27 _ (getD_true ((unhide HD).shut 30 _ (getD_true ((unhide HD).shut 34 _ (getD_true ((unhide HD).shut 35 _ (getD_true ((unhide HD).shut 39 _ (getD_true ((unhide HD).shut 40 _ (hk9) rfl ⟨39,.data⟩ (by simp) rfl)) rfl ⟨35,.data⟩ (by simp) rfl)) rfl ⟨34,.data⟩ (by simp) rfl)) rfl ⟨30,.data⟩ (by simp) rfl)) rfl ⟨27,.chain⟩ (by simp) rfl)) rfl ⟨23,.chain⟩ (by simp) rfl)) rfl ⟨21,.chain⟩ (by simp) rfl)) rfl ⟨20,.data⟩ (by simp) rfl))) (by simp)
    | 41,hk9 => exact absurd (hl9.symm.trans (getD_true ((unhide HD).shut 21 _ (getD_true ((unhide HD).shut 23 _ (getD_true ((unhide HD).shut 27 _ (getD_true ((unhide HD).shut 30 _ (getD_true ((unhide HD).shut 34 _ (getD_true ((unhide HD).shut 35 _ (getD_true ((unhide HD).shut 39 _ (getD_true ((unhide HD).shut 40 _ (getD_true ((unhide HD).shut 41 _ (hk9) rfl ⟨40,.guard⟩ (by simp) rfl)) rfl ⟨39,.data⟩ (by simp) rfl)) rfl ⟨35,.data⟩ (by simp) rfl)) rfl ⟨34,.data⟩ (by simp) rfl)) rfl ⟨30,.data⟩ (by simp) rfl)) rfl ⟨27,.chain⟩ (by simp) rfl)) rfl ⟨23,.chain⟩ (by simp) rfl)) rfl ⟨21,.chain⟩ (by simp) rfl)) rfl ⟨20,.data⟩ (by simp) rfl))) (by simp)
    | 42,hk9 => exact absurd (hl9.symm.trans (getD_true ((unhide HD).shut 21 _ (getD_true ((unhide HD).shut 23 _ (getD_true ((unhide HD).shut 27 _ (getD_true ((unhide HD).shut 30 _ (getD_true ((unhide HD).shut 34 _ (getD_true ((unhide HD).shut 35 _ (getD_true ((unhide HD).shut 39 _ (getD_true ((unhide HD).shut 40 _ (getD_true ((unhide HD).shut 42 _ (hk9) rfl ⟨40,.guard⟩ (by simp) rfl)) rfl ⟨39,.data⟩ (by simp) rfl)) rfl ⟨35,.data⟩ (by simp) rfl)) rfl ⟨34,.data⟩ (by simp) rfl)) rfl ⟨30,.data⟩ (by simp) rfl)) rfl ⟨27,.chain⟩ (by simp) rfl)) rfl ⟨23,.chain⟩ (by simp) rfl)) rfl ⟨21,.chain⟩ (by simp) rfl)) rfl ⟨20,.data⟩ (by simp) rfl))) (by simp)
    | 43,hk9 => exact absurd (hl9.symm.trans (getD_true ((unhide HD).shut 21 _ (getD_true ((unhide HD).shut 23 _ (getD_true ((unhide HD).shut 27 _ (getD_true ((unhide HD).shut 30 _ (getD_true ((unhide HD).shut 34 _ (getD_true ((unhide HD).shut 35 _ (getD_true ((unhide HD).shut 39 _ (getD_true ((unhide HD).shut 40 _ (getD_true ((unhide HD).shut 43 _ (hk9) rfl ⟨40,.data⟩ (by simp) rfl)) rfl ⟨39,.data⟩ (by simp) rfl)) rfl ⟨35,.data⟩ (by simp) rfl)) rfl ⟨34,.data⟩ (by simp) rfl)) rfl ⟨30,.data⟩ (by simp) rfl)) rfl ⟨27,.chain⟩ (by simp) rfl)) rfl ⟨23,.chain⟩ (by simp) rfl)) rfl ⟨21,.chain⟩ (by simp) rfl)) rfl ⟨20,.data⟩ (by simp) rfl))) (by simp)
    | 44,hk9 => exact absurd (hl9.symm.trans (getD_true ((unhide HD).shut 44 _ (hk9) rfl ⟨20,.phase⟩ (by simp) rfl))) (by simp)
    | k9 + 45,_ => rfl
   ·intro x hx he; simp only [List.mem_cons,List.not_mem_nil,or_false] at hx; rcases hx with rfl | rfl | rfl | rfl | rfl | rfl
    ·exact h9.mono hM.bw
    ·exact absurd he (by simp)
    ·exact absurd he (by simp)
    ·exact absurd he (by simp)
    ·exact absurd he (by simp)
    ·exact absurd he (by simp)
  ·cases ho9
   have r60 := hD.on 18 60 _ rfl (getD_true (hd9 ⟨18,.guard⟩ (by simp) rfl))
   have r61 := hD.on 19 61 _ rfl (getD_true (hd9 ⟨19,.data⟩ (by simp) rfl))
   have r62 := hD.on 20 62 _ rfl (getD_true (hd9 ⟨20,.data⟩ (by simp) rfl))
   have ga0 := hM.fx _ (List.mem_of_getElem? (i := 3) rfl) (Or.inr (by rw [hD.len]; simp))
   simp only [] at ga0
   have ga1 := hM.fx _ (List.mem_of_getElem? (i := 4) rfl) (Or.inr (by rw [hD.len]; simp))
   simp only [] at ga1
   have ga2 := hM.fx _ (List.mem_of_getElem? (i := 5) rfl) (Or.inr (by rw [hD.len]; simp))
   simp only [] at ga2
   have g20 := hM.fx _ (List.mem_of_getElem? (i := 0) rfl) (Or.inl (getD_true (hd9 ⟨20,.data⟩ (by simp) rfl)))
   simp only [] at g20
   clear hD hd9 hi9
   refine wpOp_step rfl (fun K hK => ?_)
   go_simp
   go_wp2_with fail
   refine (dsame_any false A1 N1 C1 3 (p9 20).A (p9 20).N (p9 20).C (-1) _ ga0.num g20.num).mono ?_
   rintro en w9 ⟨rfl,hb9⟩
   exact hK _ _ ⟨p9,fun _ _ => rfl,rfl,((hM.kept hs9 hb9).val rfl)⟩
  ·cases ho9
   have r60 := hD.on 18 60 _ rfl (getD_true (hd9 ⟨18,.data⟩ (by simp) rfl))
   have r63 := hD.on 21 63 _ rfl (getD_true (hd9 ⟨21,.data⟩ (by simp) rfl))
   clear hD hd9 hi9
   refine wpOp_step rfl (fun K hK => ?_)
   go_simp
   exact hK _ _ ⟨p9,fun _ _ => rfl,rfl,(hM.val rfl)⟩
  ·cases ho9
   have r64 := hD.on 22 64 _ rfl (getD_true (hd9 ⟨22,.data⟩ (by simp) rfl))
   clear hD hd9 hi9
   refine wpOp_step rfl (fun K hK => ?_)
   go_simp
   exact hK _ _ ⟨p9,fun _ _ => rfl,rfl,(hM.val rfl)⟩
  ·cases ho9
   have r65 := hD.on 23 65 _ rfl (getD_true (hd9 ⟨23,.guard⟩ (by simp) rfl))
   have r3 := hD.old 3 _ rfl rfl
   clear hD hd9 hi9
   refine wpOp_step rfl (fun K hK => ?_)
   go_simp
   exact hK _ _ ⟨p9,fun _ _ => rfl,rfl,(hM.val rfl)⟩
  ·cases ho9
   have r65 := hD.on 23 65 _ rfl (getD_true (hd9 ⟨23,.guard⟩ (by simp) rfl))
   have r66 := hD.on 24 66 _ rfl (getD_true (hd9 ⟨24,.data⟩ (by simp) rfl))
   clear hD hd9 hi9
   refine wpOp_step rfl (fun K hK => ?_)
   go_simp
   exact hK _ _ ⟨p9,fun _ _ => rfl,act_eq (by rfl),(hM.val rfl)⟩
  ·cases ho9
   have r65 := hD.on 23 65 _ rfl (getD_true (hd9 ⟨23,.data⟩ (by simp) rfl))
   have r67 := hD.on 25 67 _ rfl (getD_true (hd9 ⟨25,.data⟩ (by simp) rfl))
   clear hD hd9 hi9
   refine wpOp_step rfl (fun K hK => ?_)
   go_simp
   exact hK _ _ ⟨p9,fun _ _ => rfl,rfl,(hM.val rfl)⟩
  ·cases ho9
   have r68 := hD.on 26 68 _ rfl (getD_true (hd9 ⟨26,.data⟩ (by simp) rfl))
   clear hD hd9 hi9
   refine wpOp_step rfl (fun K hK => ?_)
   go_simp
   exact hK _ _ ⟨p9,fun _ _ => rfl,rfl,(hM.val rfl)⟩
  ·cases ho9
   have r69 := hD.on 27 69 _ rfl (getD_true (hd9 ⟨27,.guard⟩ (by simp) rfl))
   have r4 := hD.old 4 _ rfl rfl
   clear hD hd9 hi9
   refine wpOp_step rfl (fun K hK => ?_)
   go_simp
   exact hK _ _ ⟨p9,fun _ _ => rfl,rfl,(hM.val rfl)⟩
  ·cases ho9
   have r69 := hD.on 27 69 _ rfl (getD_true (hd9 ⟨27,.data⟩ (by simp) rfl))
   have r70 := hD.on 28 70 _ rfl (getD_true (hd9 ⟨28,.data⟩ (by simp) rfl))
   clear hD hd9 hi9
   refine wpOp_step rfl (fun K hK => ?_)
   go_simp
   exact hK _ _ ⟨p9,fun _ _ => rfl,rfl,(hM.val rfl)⟩
  ·cases ho9
   have r71 := hD.on 29 71 _ rfl (getD_true (hd9 ⟨29,.data⟩ (by simp) rfl))
   clear hD hd9 hi9
   refine wpOp_step rfl (fun K hK => ?_)
   go_simp
   exact hK _ _ ⟨p9,fun _ _ => rfl,rfl,(hM.val rfl)⟩
  ·cases ho9
   have r72 := hD.on 30 72 _ rfl (getD_true (hd9 ⟨30,.guard⟩ (by simp) rfl))
   have r6 := hD.old 6 _ rfl rfl
   have hM0 := hM.st
   have c9_0 := hM0.cellAt (b := w8.heap.size) (cs := #[.bool false,.slice A5 N5 C5,.int .i64 0]) (t := 26) (by simp) 0 _ rfl
   have c9_1 := hM0.cellAt (b := w8.heap.size) (cs := #[.bool false,.slice A5 N5 C5,.int .i64 0]) (t := 26) (by simp) 1 _ rfl
   have c9_2 := hM0.cellAt (b := w8.heap.size) (cs := #[.bool false,.slice A5 N5 C5,.int .i64 0]) (t := 26) (by simp) 2 _ rfl
   clear hM0
   clear hD hd9 hi9
   refine wpOp_step rfl (fun K hK => ?_)
   go_simp
   exact hK _ _ ⟨p9,fun _ _ => rfl,rfl,(hM.val rfl)⟩
  ·cases ho9
   have r72 := hD.on 30 72 _ rfl (getD_true (hd9 ⟨30,.chain⟩ (by simp) rfl))
   have ga0 := hM.fx _ (List.mem_of_getElem? (i := 3) rfl) (Or.inr (by rw [hD.len]; simp))
   simp only [] at ga0
   have ga1 := hM.fx _ (List.mem_of_getElem? (i := 4) rfl) (Or.inr (by rw [hD.len]; simp))
   simp only [] at ga1
   have ga2 := hM.fx _ (List.mem_of_getElem? (i := 5) rfl) (Or.inr (by rw [hD.len]; simp))
   simp only [] at ga2
   have g20 := hM.fx _ (List.mem_of_getElem? (i := 0) rfl) (Or.inl (getD_true (hD.shut 21 _ (getD_true (hD.shut 22 _ (getD_true (hD.shut 23 _ (getD_true (hD.shut 26 _ (getD_true (hD.shut 27 _ (getD_true (hD.shut 29 _ (getD_true (hD.shut 30 _ (getD_true (hd9 ⟨30,.chain⟩ (by simp) rfl)) rfl ⟨29,.data⟩ (by simp) rfl)) rfl ⟨27,.data⟩ (by simp) rfl)) rfl ⟨26,.data⟩ (by simp) rfl)) rfl ⟨23,.data⟩ (by simp) rfl)) rfl ⟨22,.data⟩ (by simp) rfl)) rfl ⟨21,.data⟩ (by simp) rfl)) rfl ⟨20,.data⟩ (by simp) rfl)))
   simp only [] at g20
   have HD := hide hD
   clear hD hd9 hi9
   refine wpOp_step rfl (fun K hK => ?_)
   go_simp
   go_wp2_with fail
   refine (whole_any false 9 0 (by decide) _).mono ?_
   rintro en w9 ⟨⟨a9,n9,c9,rfl,h9⟩,hb9⟩
   refine hK _ _ ⟨p9.set 32 ⟨a9,n9,c9⟩,?_,rfl,((hM.kept hs9 hb9).pick ⟨a9,n9,c9⟩ ?_)⟩
   ·intro k9 hk9
    clear hM hK
    match k9,hk9 with
    | 0,_ => rfl
    | 1,_ => rfl
    | 2,_ => rfl
    | 3,_ => rfl
    | 4,_ => rfl
    | 5,_ => rfl
    | 6,_ => rfl
    | 7,_ => rfl
    | 8,_ => rfl
    | 9,_ => rfl
    | 10,_ => rfl
    | 11,_ => rfl
    | 12,_ => rfl
    | 13,_ => rfl
    | 14,_ => rfl
    | 15,_ => rfl
    | 16,_ => rfl
    | 17,_ => rfl
    | 18,_ => rfl
    | 19,_ => rfl
    | 20,_ => rfl
    | 21,_ => rfl
    | 22,_ => rfl
    | 23,_ => rfl
    | 24,_ => rfl
    | 25,_ => rfl
    | 26,_ => rfl
    | 27,_ => rfl
    | 28,_ => rfl
    | 29,_ => rfl
    | 30,_ => rfl
    | 31,_ => rfl
    | 32,hk9 => exact absurd (hl9.symm.trans hk9) (by simp)
    | 33,hk9 => exact absurd (hl9.symm.trans (getD_true ((unhide HD).shut 33 _ (hk9) rfl ⟨32,.data⟩ (by simp) rfl))) (by simp)
    | 34,hk9 => exact absurd (hl9.symm.trans (getD_true ((unhide HD).shut 33 _ (getD_true ((unhide HD).shut 34 _ (hk9) rfl ⟨33,.data⟩ (by simp) rfl)) rfl ⟨32,.data⟩ (by simp) rfl))) (by simp)
    | 35,hk9 => exact absurd (hl9.symm.trans (getD_true ((unhide HD).shut 33 _ (getD_true ((unhide HD).shut 35 _ (hk9) rfl ⟨33,.chain⟩ (by simp) rfl)) rfl ⟨32,.data⟩ (by simp) rfl))) (by simp)
    | 36,hk9 => exact absurd (hl9.symm.trans (getD_true ((unhide HD).shut 33 _ (getD_true ((unhide HD).shut 35 _ (getD_true ((unhide HD).shut 36 _ (hk9) rfl ⟨35,.guard⟩ (by simp) rfl)) rfl ⟨33,.chain⟩ (by simp) rfl)) rfl ⟨32,.data⟩ (by simp) rfl))) (by simp)
    | 37,hk9 => exact absurd (hl9.symm.trans (getD_true ((unhide HD).shut 33 _ (getD_true ((unhide HD).shut 35 _ (getD_true ((unhide HD).shut 37 _ (hk9) rfl ⟨35,.chain⟩ (by simp) rfl)) rfl ⟨33,.chain⟩ (by simp) rfl)) rfl ⟨32,.data⟩ (by simp) rfl))) (by simp)
    | 38,hk9 => exact absurd (hl9.symm.trans (getD_true ((unhide HD).shut 33 _ (getD_true ((unhide HD).shut 35 _ (getD_true ((unhide HD).shut 38 _ (hk9) rfl ⟨35,.guard⟩ (by simp) rfl)) rfl ⟨33,.chain⟩ (by simp) rfl)) rfl ⟨32,.data⟩ (by simp) rfl))) (by simp)
    | 39,hk9 => exact absurd (hl9.symm.trans (getD_true ((unhide HD).shut 33 _ (getD_true ((unhide HD).shut 35 _ (getD_true ((unhide HD).shut 39 _ (hk9) rfl ⟨35,.data⟩ (by simp) rfl)) rfl ⟨33,.chain⟩ (by simp) rfl)) rfl ⟨32,.data⟩ (by simp) rfl))) (by simp)
    | 40,hk9 => exact absurd (hl9.symm.trans (getD_true ((unhide HD).shut 33 _ (getD_true ((unhide HD).shut 35 _ (getD_true ((unhide HD).shut 39 _ (getD_true ((unhide HD).shut 40 _ (hk9) rfl ⟨39,.data⟩ (by simp) rfl)) rfl ⟨35,.data⟩ (by simp) rfl)) rfl ⟨33,.chain⟩ (by simp) rfl)) rfl ⟨32,.data⟩ (by simp) rfl))) (by simp)
    | 41,hk9 => exact absurd (hl9.symm.trans (getD_true ((unhide HD).shut 33 _ (getD_true ((unhide HD).shut 35 _ (getD_true ((unhide HD).shut 39 _ (getD_true ((unhide HD).shut 40 _ (getD_true ((unhide HD).shut 41 _ (hk9) rfl ⟨40,.guard⟩ (by simp) rfl)) rfl ⟨39,.data⟩ (by simp) rfl)) rfl ⟨35,.data⟩ (by simp) rfl)) rfl ⟨33,.chain⟩ (by simp) rfl)) rfl ⟨32,.data⟩ (by simp) rfl))) (by simp)
    | 42,hk9 => exact absurd (hl9.symm.trans (getD_true ((unhide HD).shut 33 _ (getD_true ((unhide HD).shut 35 _ (getD_true ((unhide HD).shut 39 _ (getD_true ((unhide HD).shut 40 _ (getD_true ((unhide HD).shut 42 _ (hk9) rfl ⟨40,.guard⟩ (by simp) rfl)) rfl ⟨39,.data⟩ (by simp) rfl)) rfl ⟨35,.data⟩ (by simp) rfl)) rfl ⟨33,.chain⟩ (by simp) rfl)) rfl ⟨32,.data⟩ (by simp) rfl))) (by simp)
    | 43,hk9 => exact absurd (hl9.symm.trans (getD_true ((unhide HD).shut 33 _ (getD_true ((unhide HD).shut 35 _ (getD_true ((unhide HD).shut 39 _ (getD_true ((unhide HD).shut 40 _ (getD_true ((unhide HD).shut 43 _ (hk9) rfl ⟨40,.data⟩ (by simp) rfl)) rfl ⟨39,.data⟩ (by simp) rfl)) rfl ⟨35,.data⟩ (by simp) rfl)) rfl ⟨33,.chain⟩ (by simp) rfl)) rfl ⟨32,.data⟩ (by simp) rfl))) (by simp)
    | 44,hk9 => exact absurd (hl9.symm.trans (getD_true ((unhide HD).shut 44 _ (hk9) rfl ⟨32,.phase⟩ (by simp) rfl))) (by simp)
    | k9 + 45,_ => rfl
   ·intro x hx he; simp only [List.mem_cons,List.not_mem_nil,or_false] at hx; rcases hx with rfl | rfl | rfl | rfl | rfl | rfl
    ·exact absurd he (by simp)
    ·exact h9.mono hM.bw
    ·exact absurd he (by simp)
    ·exact absurd he (by simp)
    ·exact absurd he (by simp)
    ·exact absurd he (by simp)
  ·cases ho9
   have r72 := hD.on 30 72 _ rfl (getD_true (hd9 ⟨30,.guard⟩ (by simp) rfl))
   have r73 := hD.on 31 73 _ rfl (getD_true (hd9 ⟨31,.data⟩ (by simp) rfl))
   have r74 := hD.on 32 74 _ rfl (getD_true (hd9 ⟨32,.data⟩ (by simp) rfl))
   have ga0 := hM.fx _ (List.mem_of_getElem? (i := 3) rfl) (Or.inr (by rw [hD.len]; simp))
   simp only [] at ga0
   have ga1 := hM.fx _ (List.mem_of_getElem? (i := 4) rfl) (Or.inr (by rw [hD.len]; simp))
   simp only [] at ga1
   have ga2 := hM.fx _ (List.mem_of_getElem? (i := 5) rfl) (Or.inr (by rw [hD.len]; simp))
   simp only [] at ga2
   have g20 := hM.fx _ (List.mem_of_getElem? (i := 0) rfl) (Or.inl (getD_true (hD.shut 21 _ (getD_true (hD.shut 22 _ (getD_true (hD.shut 23 _ (getD_true (hD.shut 26 _ (getD_true (hD.shut 27 _ (getD_true (hD.shut 29 _ (getD_true (hD.shut 30 _ (getD_true (hD.shut 31 _ (getD_true (hd9 ⟨31,.data⟩ (by simp) rfl)) rfl ⟨30,.guard⟩ (by simp) rfl)) rfl ⟨29,.data⟩ (by simp) rfl)) rfl ⟨27,.data⟩ (by simp) rfl)) rfl ⟨26,.data⟩ (by simp) rfl)) rfl ⟨23,.data⟩ (by simp) rfl)) rfl ⟨22,.data⟩ (by simp) rfl)) rfl ⟨21,.data⟩ (by simp) rfl)) rfl ⟨20,.data⟩ (by simp) rfl)))
   simp only [] at g20
   have g32 := hM.fx _ (List.mem_of_getElem? (i := 1) rfl) (Or.inl (getD_true (hd9 ⟨32,.data⟩ (by simp) rfl)))
   simp only [] at g32
   clear hD hd9 hi9
   refine wpOp_step rfl (fun K hK => ?_)
   go_simp
   go_wp2_with fail
   refine (dsame_any false A5 N5 C5 9 (p9 32).A (p9 32).N (p9 32).C 0 _ ga1.num g32.num).mono ?_
   rintro en w9 ⟨rfl,hb9⟩
   exact hK _ _ ⟨p9,fun _ _ => rfl,rfl,((hM.kept hs9 hb9).val rfl)⟩
  ·cases ho9
   have r72 := hD.on 30 72 _ rfl (getD_true (hd9 ⟨30,.data⟩ (by simp) rfl))
   have r75 := hD.on 33 75 _ rfl (getD_true (hd9 ⟨33,.data⟩ (by simp) rfl))
   clear hD hd9 hi9
   refine wpOp_step rfl (fun K hK => ?_)
   go_simp
   exact hK _ _ ⟨p9,fun _ _ => rfl,rfl,(hM.val rfl)⟩
  ·cases ho9
   have r76 := hD.on 34 76 _ rfl (getD_true (hd9 ⟨34,.data⟩ (by simp) rfl))
   clear hD hd9 hi9
   refine wpOp_step rfl (fun K hK => ?_)
   go_simp
   exact hK _ _ ⟨p9,fun _ _ => rfl,rfl,(hM.val rfl)⟩
  ·cases ho9
   have r77 := hD.on 35 77 _ rfl (getD_true (hd9 ⟨35,.guard⟩ (by simp) rfl))
   have r8 := hD.old 8 _ rfl rfl
   have hM0 := hM.st
   have c9_0 := hM0.cellAt (b := w11.heap.size) (cs := #[.bool true,.slice A8 N8 C8,.int .i64 3]) (t := 26) (by simp) 0 _ rfl
   have c9_1 := hM0.cellAt (b := w11.heap.size) (cs := #[.bool true,.slice A8 N8 C8,.int .i64 3]) (t := 26) (by simp) 1 _ rfl
   have c9_2 := hM0.cellAt (b := w11.heap.size) (cs := #[.bool true,.slice A8 N8 C8,.int .i64 3]) (t := 26) (by simp) 2 _ rfl
   clear hM0
   clear hD hd9 hi9
   refine wpOp_step rfl (fun K hK => ?_)
   go_simp
   exact hK _ _ ⟨p9,fun _ _ => rfl,rfl,(hM.val rfl)⟩
  ·cases ho9
   have r77 := hD.on 35 77 _ rfl (getD_true (hd9 ⟨35,.chain⟩ (by simp) rfl))
   have ga0 := hM.fx _ (List.mem_of_getElem? (i := 3) rfl) (Or.inr (by rw [hD.len]; simp))
   simp only [] at ga0
   have ga1 := hM.fx _ (List.mem_of_getElem? (i := 4) rfl) (Or.inr (by rw [hD.len]; simp))
   simp only [] at ga1
   have ga2 := hM.fx _ (List.mem_of_getElem? (i := 5) rfl) (Or.inr (by rw [hD.len]; simp))
   simp only [] at ga2
   have g20 := hM.fx _ (List.mem_of_getElem? (i := 0) rfl) (Or.inl (getD_true (hD.shut 21 _ (getD_true (hD.shut 22 _ (getD_true (hD.shut 23 _ (getD_true (hD.shut 26 _ (getD_true (hD.shut 27 _ (getD_true (hD.shut 29 _ (getD_true (hD.shut 30 _ (getD_true (hD.shut 34 _ (getD_true (hD.shut 35 _ (getD_true (hd9 ⟨35,.chain⟩ (by simp) rfl)) rfl ⟨34,.data⟩ (by simp) rfl)) rfl ⟨30,.data⟩ (by simp) rfl)) rfl ⟨29,.data⟩ (by simp) rfl)) rfl ⟨27,.data⟩ (by simp) rfl)) rfl ⟨26,.data⟩ (by simp) rfl)) rfl ⟨23,.data⟩ (by simp) rfl)) rfl ⟨22,.data⟩ (by simp) rfl)) rfl ⟨21,.data⟩ (by simp) rfl)) rfl ⟨20,.data⟩ (by simp) rfl)))
   simp only [] at g20
   have g32 := hM.fx _ (List.mem_of_getElem? (i := 1) rfl) (Or.inl (getD_true (hD.shut 33 _ (getD_true (hD.shut 34 _ (getD_true (hD.shut 35 _ (getD_true (hd9 ⟨35,.chain⟩ (by simp) rfl)) rfl ⟨34,.data⟩ (by simp) rfl)) rfl ⟨33,.data⟩ (by simp) rfl)) rfl ⟨32,.data⟩ (by simp) rfl)))
   simp only [] at g32
   have HD := hide hD
   clear hD hd9 hi9
   refine wpOp_step rfl (fun K hK => ?_)
   go_simp
   go_wp2_with fail
   refine (whole_any true 15 3 (by decide) _).mono ?_
   rintro en w9 ⟨⟨a9,n9,c9,rfl,h9⟩,hb9⟩
   refine hK _ _ ⟨p9.set 37 ⟨a9,n9,c9⟩,?_,rfl,((hM.kept hs9 hb9).pick ⟨a9,n9,c9⟩ ?_)⟩
   ·intro k9 hk9
    clear hM hK
    match k9,hk9 with
    | 0,_ => rfl
    | 1,_ => rfl
    | 2,_ => rfl
    | 3,_ => rfl
    | 4,_ => rfl
    | 5,_ => rfl
    | 6,_ => rfl
    | 7,_ => rfl
    | 8,_ => rfl
    | 9,_ => rfl
    | 10,_ => rfl
    | 11,_ => rfl
    | 12,_ => rfl
    | 13,_ => rfl
    | 14,_ => rfl
    | 15,_ => rfl
    | 16,_ => rfl
    | 17,_ => rfl
    | 18,_ => rfl
    | 19,_ => rfl
    | 20,_ => rfl
    | 21,_ => rfl
    | 22,_ => rfl
    | 23,_ => rfl
    | 24,_ => rfl
    | 25,_ => rfl
    | 26,_ => rfl
    | 27,_ => rfl
    | 28,_ => rfl
    | 29,_ => rfl
    | 30,_ => rfl
    | 31,_ => rfl
    | 32,_ => rfl
    | 33,_ => rfl
    | 34,_ => rfl
    | 35,_ => rfl
    | 36,_ => rfl
    | 37,hk9 => exact absurd (hl9.symm.trans hk9) (by simp)
    | 38,hk9 => exact absurd (hl9.symm.trans (getD_true ((unhide HD).shut 38 _ (hk9) rfl ⟨37,.data⟩ (by simp) rfl))) (by simp)
    | 39,hk9 => exact absurd (hl9.symm.trans (getD_true ((unhide HD).shut 38 _ (getD_true ((unhide HD).shut 39 _ (hk9) rfl ⟨38,.data⟩ (by simp) rfl)) rfl ⟨37,.data⟩ (by simp) rfl))) (by simp)
    | 40,hk9 => exact absurd (hl9.symm.trans (getD_true ((unhide HD).shut 38 _ (getD_true ((unhide HD).shut 40 _ (hk9) rfl ⟨38,.chain⟩ (by simp) rfl)) rfl ⟨37,.data⟩ (by simp) rfl))) (by simp)
    | 41,hk9 => exact absurd (hl9.symm.trans (getD_true ((unhide HD).shut 38 _ (getD_true ((unhide HD).shut 40 _ (getD_true ((unhide HD).shut 41 _ (hk9) rfl ⟨40,.guard⟩ (by simp) rfl)) rfl ⟨38,.chain⟩ (by simp) rfl)) rfl ⟨37,.data⟩ (by simp) rfl))) (by simp)
    | 42,hk9 => exact absurd (hl9.symm.trans (getD_true ((unhide HD).shut 38 _ (getD_true ((unhide HD).shut 40 _ (getD_true ((unhide HD).shut 42 _ (hk9) rfl ⟨40,.guard⟩ (by simp) rfl)) rfl ⟨38,.chain⟩ (by simp) rfl)) rfl ⟨37,.data⟩ (by simp) rfl))) (by simp)
    | 43,hk9 => exact absurd (hl9.symm.trans (getD_true ((unhide HD).shut 38 _ (getD_true ((unhide HD).shut 40 _ (getD_true ((unhide HD).shut 43 _ (hk9) rfl ⟨40,.data⟩ (by simp) rfl)) rfl ⟨38,.chain⟩ (by simp) rfl)) rfl ⟨37,.data⟩ (by simp) rfl))) (by simp)
    | 44,hk9 => exact absurd (hl9.symm.trans (getD_true ((unhide HD).shut 44 _ (hk9) rfl ⟨37,.phase⟩ (by simp) rfl))) (by simp)
    | k9 + 45,_ => rfl
   ·intro x hx he; simp only [List.mem_cons,List.not_mem_nil,or_false] at hx; rcases hx with rfl | rfl | rfl | rfl | rfl | rfl
    ·exact absurd he (by simp)
    ·exact absurd he (by simp)
    ·exact h9.mono hM.bw
    ·exact absurd he (by simp)
    ·exact absurd he (by simp)
    ·exact absurd he (by simp)
  ·cases ho9
   have r77 := hD.on 35 77 _ rfl (getD_true (hd9 ⟨35,.guard⟩ (by simp) rfl))
   have r78 := hD.on 36 78 _ rfl (getD_true (hd9 ⟨36,.data⟩ (by simp) rfl))
   have r79 := hD.on 37 79 _ rfl (getD_true (hd9 ⟨37,.data⟩ (by simp) rfl))
   have ga0 := hM.fx _ (List.mem_of_getElem? (i := 3) rfl) (Or.inr (by rw [hD.len]; simp))
   simp only [] at ga0
   have ga1 := hM.fx _ (List.mem_of_getElem? (i := 4) rfl) (Or.inr (by rw [hD.len]; simp))
   simp only [] at ga1
   have ga2 := hM.fx _ (List.mem_of_getElem? (i := 5) rfl) (Or.inr (by rw [hD.len]; simp))
   simp only [] at ga2
   have g20 := hM.fx _ (List.mem_of_getElem? (i := 0) rfl) (Or.inl (getD_true (hD.shut 21 _ (getD_true (hD.shut 22 _ (getD_true (hD.shut 23 _ (getD_true (hD.shut 26 _ (getD_true (hD.shut 27 _ (getD_true (hD.shut 29 _ (getD_true (hD.shut 30 _ (getD_true (hD.shut 34 _ (getD_true (hD.shut 35 _ (getD_true (hD.shut 36 _ (getD_true (hd9 ⟨36,.data⟩ (by simp) rfl)) rfl ⟨35,.guard⟩ (by simp) rfl)) rfl ⟨34,.data⟩ (by simp) rfl)) rfl ⟨30,.data⟩ (by simp) rfl)) rfl ⟨29,.data⟩ (by simp) rfl)) rfl ⟨27,.data⟩ (by simp) rfl)) rfl ⟨26,.data⟩ (by simp) rfl)) rfl ⟨23,.data⟩ (by simp) rfl)) rfl ⟨22,.data⟩ (by simp) rfl)) rfl ⟨21,.data⟩ (by simp) rfl)) rfl ⟨20,.data⟩ (by simp) rfl)))
   simp only [] at g20
   have g32 := hM.fx _ (List.mem_of_getElem? (i := 1) rfl) (Or.inl (getD_true (hD.shut 33 _ (getD_true (hD.shut 34 _ (getD_true (hD.shut 35 _ (getD_true (hD.shut 36 _ (getD_true (hd9 ⟨36,.data⟩ (by simp) rfl)) rfl ⟨35,.guard⟩ (by simp) rfl)) rfl ⟨34,.data⟩ (by simp) rfl)) rfl ⟨33,.data⟩ (by simp) rfl)) rfl ⟨32,.data⟩ (by simp) rfl)))
   simp only [] at g32
   have g37 := hM.fx _ (List.mem_of_getElem? (i := 2) rfl) (Or.inl (getD_true (hd9 ⟨37,.data⟩ (by simp) rfl)))
   simp only [] at g37
   clear hD hd9 hi9
   refine wpOp_step rfl (fun K hK => ?_)
   go_simp
   go_wp2_with fail
   refine (dsame_any true A8 N8 C8 15 (p9 37).A (p9 37).N (p9 37).C 3 _ ga2.num g37.num).mono ?_
   rintro en w9 ⟨rfl,hb9⟩
   exact hK _ _ ⟨p9,fun _ _ => rfl,rfl,((hM.kept hs9 hb9).val rfl)⟩
  ·cases ho9
   have r77 := hD.on 35 77 _ rfl (getD_true (hd9 ⟨35,.data⟩ (by simp) rfl))
   have r80 := hD.on 38 80 _ rfl (getD_true (hd9 ⟨38,.data⟩ (by simp) rfl))
   clear hD hd9 hi9
   refine wpOp_step rfl (fun K hK => ?_)
   go_simp
   exact hK _ _ ⟨p9,fun _ _ => rfl,rfl,(hM.val rfl)⟩
  ·cases ho9
   have r81 := hD.on 39 81 _ rfl (getD_true (hd9 ⟨39,.data⟩ (by simp) rfl))
   clear hD hd9 hi9
   refine wpOp_step rfl (fun K hK => ?_)
   go_simp
   exact hK _ _ ⟨p9,fun _ _ => rfl,rfl,(hM.val rfl)⟩
  ·cases ho9
   have r82 := hD.on 40 82 _ rfl (getD_true (hd9 ⟨40,.guard⟩ (by simp) rfl))
   have r10 := hD.old 10 _ rfl rfl
   clear hD hd9 hi9
   refine wpOp_step rfl (fun K hK => ?_)
   go_simp
   exact hK _ _ ⟨p9,fun _ _ => rfl,rfl,(hM.val rfl)⟩
  ·cases ho9
   have r82 := hD.on 40 82 _ rfl (getD_true (hd9 ⟨40,.guard⟩ (by simp) rfl))
   have r83 := hD.on 41 83 _ rfl (getD_true (hd9 ⟨41,.data⟩ (by simp) rfl))
   clear hD hd9 hi9
   refine wpOp_step rfl (fun K hK => ?_)
   go_simp
   exact hK _ _ ⟨p9,fun _ _ => rfl,act_eq (by rfl),(hM.val rfl)⟩
  ·cases ho9
   have r82 := hD.on 40 82 _ rfl (getD_true (hd9 ⟨40,.data⟩ (by simp) rfl))
   have r84 := hD.on 42 84 _ rfl (getD_true (hd9 ⟨42,.data⟩ (by simp) rfl))
   clear hD hd9 hi9
   refine wpOp_step rfl (fun K hK => ?_)
   go_simp
   exact hK _ _ ⟨p9,fun _ _ => rfl,rfl,(hM.val rfl)⟩
  ·cases ho9
   have r85 := hD.on 43 85 _ rfl (getD_true (hd9 ⟨43,.data⟩ (by simp) rfl))
   clear hD hd9 hi9
   refine wpOp_step rfl (fun K hK => ?_)
   go_simp
   exact hK _ _ ⟨p9,fun _ _ => rfl,rfl,(hM.val rfl)⟩
 ·intro p9 l9 W9 hn9 hl9 hM
  have fr6_20 := hM.fx _ (List.mem_of_getElem? (i := 0) rfl) (Or.inl (hl9 20 (by decide)))
  have fr6_32 := hM.fx _ (List.mem_of_getElem? (i := 1) rfl) (Or.inl (hl9 32 (by decide)))
  have fr6_37 := hM.fx _ (List.mem_of_getElem? (i := 2) rfl) (Or.inl (hl9 37 (by decide)))
  have kr6_0 := hM.fx _ (List.mem_of_getElem? (i := 3) rfl) (Or.inr (by rw [hn9]; simp))
  simp only [] at kr6_0
  have kr6_1 := hM.fx _ (List.mem_of_getElem? (i := 4) rfl) (Or.inr (by rw [hn9]; simp))
  simp only [] at kr6_1
  have kr6_2 := hM.fx _ (List.mem_of_getElem? (i := 5) rfl) (Or.inr (by rw [hn9]; simp))
  simp only [] at kr6_2
  replace hM := hM.st
  clear hl9 hs9 h09 hn9
  generalize p9 20 = q20 at *
  obtain ⟨Ar6_20,Nr6_20,Cr6_20⟩ := q20
  simp only [] at fr6_20
  generalize p9 32 = q32 at *
  obtain ⟨Ar6_32,Nr6_32,Cr6_32⟩ := q32
  simp only [] at fr6_32
  generalize p9 37 = q37 at *
  obtain ⟨Ar6_37,Nr6_37,Cr6_37⟩ := q37
  simp only [] at fr6_37
  clear hS z14_0_0 z14_0_1 z14_0_2 z14_1_0 z14_1_1 z14_1_2 z14_2_0 z14_2_1 z14_2_2
  have hS := hM
  clear hM
  simp only [Puts.lay,List.setIfInBounds_toArray,List.set_cons_zero,List.set_cons_succ]
  obtain ⟨⟨z15_0_0,z15_0_1,z15_0_2,-⟩,⟨z15_1_0,z15_1_1,z15_1_2,-⟩,⟨z15_2_0,z15_2_1,z15_2_2,-⟩,-⟩ := hS.cells
  go_wp2
  go_ret
  exact ⟨rfl,hS.fr⟩
end Go.Proofs.YtjemjhaphannaaaDoor
namespace Go.Proofs.YtjemjhaphannaaaDoor
open Go.RowKit
theorem xf_from (b : Nat) (w : World) : (callFunc 42 #[.int .u64 (b : Int)]).run Tryd.prog w = .ok (.value (.float .f64 b)) w := by
 rw [run_callFunc_extern (e := Extern.MathFloatBits.float64frombits) Tryd.func42 (by kernel_rfl) (by kernel_rfl) (by kernel_rfl) (by kernel_rfl)]; rfl
end Go.Proofs.YtjemjhaphannaaaDoor
namespace Go.Proofs.YtjemjhaphannaaaDoor
open Go.RowKit
set_option maxRecDepth 20000 in
set_option maxHeartbeats 8000000 in
theorem xf_A_lt (E F : Int) (b x y : Nat) (er : Int) (sx : Bool) (mx : Nat) (ex : Int) (sy : Bool) (my : Nat) (ey : Int) (w : World) (hT : Tb w) (hv0 : Hid (∀ W : World,Calls Tryd.prog 18 #[.agg #[.int .i64 E,.int .i64 F],.int .u64 b] W fun e w' => e = .returned (.tuple #[.agg #[.bool false,.slice none 0 0,.int .i64 0],.int .i64 er]) ∧ Below W.heap.size W w')) (her : (er == 0) = false) (hvx : Hid (∀ W : World,Tb W → Calls Tryd.prog 18 #[.agg #[.int .i64 11,.int .i64 52],.int .u64 x] W fun e w' => (∃ A N C,e = .returned (.tuple #[.agg #[.bool sx,.slice A N C,.int .i64 ex],.int .i64 0]) ∧ Num w' A N mx) ∧ Below W.heap.size W w')) (hsx : ∀ W : World,(binOp BinOp.sub 69 (.float .f64 x) (.float .f64 x)).run Tryd.prog W = .ok (.float .f64 0) W) (hvy : Hid (∀ W : World,Tb W → Calls Tryd.prog 18 #[.agg #[.int .i64 11,.int .i64 52],.int .u64 y] W fun e w' => (∃ A N C,e = .returned (.tuple #[.agg #[.bool sy,.slice A N C,.int .i64 ey],.int .i64 0]) ∧ Num w' A N my) ∧ Below W.heap.size W w')) (hsy : ∀ W : World,(binOp BinOp.sub 69 (.float .f64 y) (.float .f64 y)).run Tryd.prog W = .ok (.float .f64 0) W) (hcm : Hid (∀ (W : World) (A : Option Addr) (N C : Nat) (A' : Option Addr) (N' C' : Nat),Num W A N mx → Num W A' N' my → Calls Tryd.prog 17 #[.agg #[.bool sx,.slice A N C,.int .i64 ex],.agg #[.bool sy,.slice A' N' C',.int .i64 ey]] W fun e w' => e = .returned (.tuple #[.int .i64 (-1),.int .i64 0]) ∧ Below W.heap.size W w')) (hord : FloatKind.f64.format.order x y = some .lt) :
  Calls Tryd.prog 8 #[.agg #[.int .i64 E,.int .i64 F],.int .u64 b,.int .u64 x,.int .u64 y] w fun e w' => e = .returned (.bool true) ∧ Below w.heap.size w w' := by
 have HT := hide hT
 clear hT
 have x2 := xf_from
 go_enter Tryd.func8,Tryd.ntmps8
 go_wp2_with fail
 refine (alive_any _ (((unhide HT).alloc _))).mono ?_
 rintro e w1 ⟨rfl,hb1⟩
 have hS := (Fs.one w _ _).kept hb1
 obtain ⟨⟨z1_0_0,z1_0_1,-⟩,-⟩ := hS.cells
 go_wp2_with fail
 refine (unhide hv0 _).mono ?_
 rintro e w2 ⟨rfl,hb2⟩
 replace hS := hS.kept hb2
 clear z1_0_0 z1_0_1
 obtain ⟨⟨z2_0_0,z2_0_1,-⟩,-⟩ := hS.cells
 have hltw2_0 : w.heap.size < w2.heap.size := block_lt (hS.bx ⟨w.heap.size,#[.int .i64 E,.int .i64 F],38⟩ (by simp))
 replace hS := hS.alloc #[.bool false,.slice none 0 0,.int .i64 0] 26
 go_wp2_with fail
 refine (Double4 _).mono ?_
 rintro e w3 ⟨rfl,hb3⟩
 replace hS := hS.kept hb3
 clear z2_0_0 z2_0_1
 obtain ⟨⟨z3_0_0,z3_0_1,z3_0_2,-⟩,⟨z3_1_0,z3_1_1,-⟩,-⟩ := hS.cells
 go_wp2_with fail
 refine (unhide hvx _ ((unhide HT).kept hS.fr)).mono ?_
 rintro e w4 ⟨⟨A1,N1,C1,rfl,f1⟩,hb4⟩
 replace hS := hS.kept hb4
 clear z3_0_0 z3_0_1 z3_0_2 z3_1_0 z3_1_1
 obtain ⟨⟨z4_0_0,z4_0_1,z4_0_2,-⟩,⟨z4_1_0,z4_1_1,-⟩,-⟩ := hS.cells
 have G1 := hide f1
 clear f1
 have hltw4_0 : w2.heap.size < w4.heap.size := block_lt (hS.bx ⟨w2.heap.size,#[.bool false,.slice none 0 0,.int .i64 0],26⟩ (by simp))
 have hltw4_1 : w.heap.size < w4.heap.size := block_lt (hS.bx ⟨w.heap.size,#[.int .i64 E,.int .i64 F],38⟩ (by simp))
 replace hS := hS.alloc #[.bool sx,.slice A1 N1 C1,.int .i64 ex] 26
 replace G1 := hide ((unhide G1).alloc (.cells #[.bool sx,.slice A1 N1 C1,.int .i64 ex] 26))
 go_wp2_with fail
 refine (Double4 _).mono ?_
 rintro e w5 ⟨rfl,hb5⟩
 replace hS := hS.kept hb5
 clear z4_0_0 z4_0_1 z4_0_2 z4_1_0 z4_1_1
 obtain ⟨⟨z5_0_0,z5_0_1,z5_0_2,-⟩,⟨z5_1_0,z5_1_1,z5_1_2,-⟩,⟨z5_2_0,z5_2_1,-⟩,-⟩ := hS.cells
 replace G1 := hide ((unhide G1).kept hb5)
 go_wp2_with fail
 refine (unhide hvy _ ((unhide HT).kept hS.fr)).mono ?_
 rintro e w6 ⟨⟨A2,N2,C2,rfl,f2⟩,hb6⟩
 replace hS := hS.kept hb6
 clear z5_0_0 z5_0_1 z5_0_2 z5_1_0 z5_1_1 z5_1_2 z5_2_0 z5_2_1
 obtain ⟨⟨z6_0_0,z6_0_1,z6_0_2,-⟩,⟨z6_1_0,z6_1_1,z6_1_2,-⟩,⟨z6_2_0,z6_2_1,-⟩,-⟩ := hS.cells
 replace G1 := hide ((unhide G1).kept hb6)
 have G2 := hide f2
 clear f2
 have hltw6_0 : w4.heap.size < w6.heap.size := block_lt (hS.bx ⟨w4.heap.size,#[.bool sx,.slice A1 N1 C1,.int .i64 ex],26⟩ (by simp))
 have hltw6_1 : w2.heap.size < w6.heap.size := block_lt (hS.bx ⟨w2.heap.size,#[.bool false,.slice none 0 0,.int .i64 0],26⟩ (by simp))
 have hltw6_2 : w.heap.size < w6.heap.size := block_lt (hS.bx ⟨w.heap.size,#[.int .i64 E,.int .i64 F],38⟩ (by simp))
 replace hS := hS.alloc #[.bool sy,.slice A2 N2 C2,.int .i64 ey] 26
 replace G1 := hide ((unhide G1).alloc (.cells #[.bool sy,.slice A2 N2 C2,.int .i64 ey] 26))
 replace G2 := hide ((unhide G2).alloc (.cells #[.bool sy,.slice A2 N2 C2,.int .i64 ey] 26))
 go_wp2_with fail
 refine (unhide hcm _ A1 N1 C1 A2 N2 C2 (unhide G1) (unhide G2)).mono ?_
 rintro e w7 ⟨rfl,hb7⟩
 replace hS := hS.kept hb7
 clear z6_0_0 z6_0_1 z6_0_2 z6_1_0 z6_1_1 z6_1_2 z6_2_0 z6_2_1
 obtain ⟨⟨z7_0_0,z7_0_1,z7_0_2,-⟩,⟨z7_1_0,z7_1_1,z7_1_2,-⟩,⟨z7_2_0,z7_2_1,z7_2_2,-⟩,⟨z7_3_0,z7_3_1,-⟩,-⟩ := hS.cells
 replace G1 := hide ((unhide G1).kept hb7)
 replace G2 := hide ((unhide G2).kept hb7)
 go_wp2
 go_ret
 first | exact ⟨rfl,hS.fr⟩ | exact ⟨rfl,hS.fr.drew⟩ | exact ⟨rfl,hS.fr.drew.drew⟩
set_option maxRecDepth 20000 in
set_option maxHeartbeats 8000000 in
theorem xf_A_eq (E F : Int) (b x y : Nat) (er : Int) (sx : Bool) (mx : Nat) (ex : Int) (sy : Bool) (my : Nat) (ey : Int) (w : World) (hT : Tb w) (hv0 : Hid (∀ W : World,Calls Tryd.prog 18 #[.agg #[.int .i64 E,.int .i64 F],.int .u64 b] W fun e w' => e = .returned (.tuple #[.agg #[.bool false,.slice none 0 0,.int .i64 0],.int .i64 er]) ∧ Below W.heap.size W w')) (her : (er == 0) = false) (hvx : Hid (∀ W : World,Tb W → Calls Tryd.prog 18 #[.agg #[.int .i64 11,.int .i64 52],.int .u64 x] W fun e w' => (∃ A N C,e = .returned (.tuple #[.agg #[.bool sx,.slice A N C,.int .i64 ex],.int .i64 0]) ∧ Num w' A N mx) ∧ Below W.heap.size W w')) (hsx : ∀ W : World,(binOp BinOp.sub 69 (.float .f64 x) (.float .f64 x)).run Tryd.prog W = .ok (.float .f64 0) W) (hvy : Hid (∀ W : World,Tb W → Calls Tryd.prog 18 #[.agg #[.int .i64 11,.int .i64 52],.int .u64 y] W fun e w' => (∃ A N C,e = .returned (.tuple #[.agg #[.bool sy,.slice A N C,.int .i64 ey],.int .i64 0]) ∧ Num w' A N my) ∧ Below W.heap.size W w')) (hsy : ∀ W : World,(binOp BinOp.sub 69 (.float .f64 y) (.float .f64 y)).run Tryd.prog W = .ok (.float .f64 0) W) (hcm : Hid (∀ (W : World) (A : Option Addr) (N C : Nat) (A' : Option Addr) (N' C' : Nat),Num W A N mx → Num W A' N' my → Calls Tryd.prog 17 #[.agg #[.bool sx,.slice A N C,.int .i64 ex],.agg #[.bool sy,.slice A' N' C',.int .i64 ey]] W fun e w' => e = .returned (.tuple #[.int .i64 0,.int .i64 0]) ∧ Below W.heap.size W w')) (hord : FloatKind.f64.format.order x y = some .eq) :
  Calls Tryd.prog 8 #[.agg #[.int .i64 E,.int .i64 F],.int .u64 b,.int .u64 x,.int .u64 y] w fun e w' => e = .returned (.bool true) ∧ Below w.heap.size w w' := by
 have HT := hide hT
 clear hT
 have x2 := xf_from
 go_enter Tryd.func8,Tryd.ntmps8
 go_wp2_with fail
 refine (alive_any _ (((unhide HT).alloc _))).mono ?_
 rintro e w1 ⟨rfl,hb1⟩
 have hS := (Fs.one w _ _).kept hb1
 obtain ⟨⟨z1_0_0,z1_0_1,-⟩,-⟩ := hS.cells
 go_wp2_with fail
 refine (unhide hv0 _).mono ?_
 rintro e w2 ⟨rfl,hb2⟩
 replace hS := hS.kept hb2
 clear z1_0_0 z1_0_1
 obtain ⟨⟨z2_0_0,z2_0_1,-⟩,-⟩ := hS.cells
 have hltw2_0 : w.heap.size < w2.heap.size := block_lt (hS.bx ⟨w.heap.size,#[.int .i64 E,.int .i64 F],38⟩ (by simp))
 replace hS := hS.alloc #[.bool false,.slice none 0 0,.int .i64 0] 26
 go_wp2_with fail
 refine (Double4 _).mono ?_
 rintro e w3 ⟨rfl,hb3⟩
 replace hS := hS.kept hb3
 clear z2_0_0 z2_0_1
 obtain ⟨⟨z3_0_0,z3_0_1,z3_0_2,-⟩,⟨z3_1_0,z3_1_1,-⟩,-⟩ := hS.cells
 go_wp2_with fail
 refine (unhide hvx _ ((unhide HT).kept hS.fr)).mono ?_
 rintro e w4 ⟨⟨A1,N1,C1,rfl,f1⟩,hb4⟩
 replace hS := hS.kept hb4
 clear z3_0_0 z3_0_1 z3_0_2 z3_1_0 z3_1_1
 obtain ⟨⟨z4_0_0,z4_0_1,z4_0_2,-⟩,⟨z4_1_0,z4_1_1,-⟩,-⟩ := hS.cells
 have G1 := hide f1
 clear f1
 have hltw4_0 : w2.heap.size < w4.heap.size := block_lt (hS.bx ⟨w2.heap.size,#[.bool false,.slice none 0 0,.int .i64 0],26⟩ (by simp))
 have hltw4_1 : w.heap.size < w4.heap.size := block_lt (hS.bx ⟨w.heap.size,#[.int .i64 E,.int .i64 F],38⟩ (by simp))
 replace hS := hS.alloc #[.bool sx,.slice A1 N1 C1,.int .i64 ex] 26
 replace G1 := hide ((unhide G1).alloc (.cells #[.bool sx,.slice A1 N1 C1,.int .i64 ex] 26))
 go_wp2_with fail
 refine (Double4 _).mono ?_
 rintro e w5 ⟨rfl,hb5⟩
 replace hS := hS.kept hb5
 clear z4_0_0 z4_0_1 z4_0_2 z4_1_0 z4_1_1
 obtain ⟨⟨z5_0_0,z5_0_1,z5_0_2,-⟩,⟨z5_1_0,z5_1_1,z5_1_2,-⟩,⟨z5_2_0,z5_2_1,-⟩,-⟩ := hS.cells
 replace G1 := hide ((unhide G1).kept hb5)
 go_wp2_with fail
 refine (unhide hvy _ ((unhide HT).kept hS.fr)).mono ?_
 rintro e w6 ⟨⟨A2,N2,C2,rfl,f2⟩,hb6⟩
 replace hS := hS.kept hb6
 clear z5_0_0 z5_0_1 z5_0_2 z5_1_0 z5_1_1 z5_1_2 z5_2_0 z5_2_1
 obtain ⟨⟨z6_0_0,z6_0_1,z6_0_2,-⟩,⟨z6_1_0,z6_1_1,z6_1_2,-⟩,⟨z6_2_0,z6_2_1,-⟩,-⟩ := hS.cells
 replace G1 := hide ((unhide G1).kept hb6)
 have G2 := hide f2
 clear f2
 have hltw6_0 : w4.heap.size < w6.heap.size := block_lt (hS.bx ⟨w4.heap.size,#[.bool sx,.slice A1 N1 C1,.int .i64 ex],26⟩ (by simp))
 have hltw6_1 : w2.heap.size < w6.heap.size := block_lt (hS.bx ⟨w2.heap.size,#[.bool false,.slice none 0 0,.int .i64 0],26⟩ (by simp))
 have hltw6_2 : w.heap.size < w6.heap.size := block_lt (hS.bx ⟨w.heap.size,#[.int .i64 E,.int .i64 F],38⟩ (by simp))
 replace hS := hS.alloc #[.bool sy,.slice A2 N2 C2,.int .i64 ey] 26
 replace G1 := hide ((unhide G1).alloc (.cells #[.bool sy,.slice A2 N2 C2,.int .i64 ey] 26))
 replace G2 := hide ((unhide G2).alloc (.cells #[.bool sy,.slice A2 N2 C2,.int .i64 ey] 26))
 go_wp2_with fail
 refine (unhide hcm _ A1 N1 C1 A2 N2 C2 (unhide G1) (unhide G2)).mono ?_
 rintro e w7 ⟨rfl,hb7⟩
 replace hS := hS.kept hb7
 clear z6_0_0 z6_0_1 z6_0_2 z6_1_0 z6_1_1 z6_1_2 z6_2_0 z6_2_1
 obtain ⟨⟨z7_0_0,z7_0_1,z7_0_2,-⟩,⟨z7_1_0,z7_1_1,z7_1_2,-⟩,⟨z7_2_0,z7_2_1,z7_2_2,-⟩,⟨z7_3_0,z7_3_1,-⟩,-⟩ := hS.cells
 replace G1 := hide ((unhide G1).kept hb7)
 replace G2 := hide ((unhide G2).kept hb7)
 go_wp2
 go_ret
 first | exact ⟨rfl,hS.fr⟩ | exact ⟨rfl,hS.fr.drew⟩ | exact ⟨rfl,hS.fr.drew.drew⟩
set_option maxRecDepth 20000 in
set_option maxHeartbeats 8000000 in
theorem xf_A_gt (E F : Int) (b x y : Nat) (er : Int) (sx : Bool) (mx : Nat) (ex : Int) (sy : Bool) (my : Nat) (ey : Int) (w : World) (hT : Tb w) (hv0 : Hid (∀ W : World,Calls Tryd.prog 18 #[.agg #[.int .i64 E,.int .i64 F],.int .u64 b] W fun e w' => e = .returned (.tuple #[.agg #[.bool false,.slice none 0 0,.int .i64 0],.int .i64 er]) ∧ Below W.heap.size W w')) (her : (er == 0) = false) (hvx : Hid (∀ W : World,Tb W → Calls Tryd.prog 18 #[.agg #[.int .i64 11,.int .i64 52],.int .u64 x] W fun e w' => (∃ A N C,e = .returned (.tuple #[.agg #[.bool sx,.slice A N C,.int .i64 ex],.int .i64 0]) ∧ Num w' A N mx) ∧ Below W.heap.size W w')) (hsx : ∀ W : World,(binOp BinOp.sub 69 (.float .f64 x) (.float .f64 x)).run Tryd.prog W = .ok (.float .f64 0) W) (hvy : Hid (∀ W : World,Tb W → Calls Tryd.prog 18 #[.agg #[.int .i64 11,.int .i64 52],.int .u64 y] W fun e w' => (∃ A N C,e = .returned (.tuple #[.agg #[.bool sy,.slice A N C,.int .i64 ey],.int .i64 0]) ∧ Num w' A N my) ∧ Below W.heap.size W w')) (hsy : ∀ W : World,(binOp BinOp.sub 69 (.float .f64 y) (.float .f64 y)).run Tryd.prog W = .ok (.float .f64 0) W) (hcm : Hid (∀ (W : World) (A : Option Addr) (N C : Nat) (A' : Option Addr) (N' C' : Nat),Num W A N mx → Num W A' N' my → Calls Tryd.prog 17 #[.agg #[.bool sx,.slice A N C,.int .i64 ex],.agg #[.bool sy,.slice A' N' C',.int .i64 ey]] W fun e w' => e = .returned (.tuple #[.int .i64 1,.int .i64 0]) ∧ Below W.heap.size W w')) (hord : FloatKind.f64.format.order x y = some .gt) :
  Calls Tryd.prog 8 #[.agg #[.int .i64 E,.int .i64 F],.int .u64 b,.int .u64 x,.int .u64 y] w fun e w' => e = .returned (.bool true) ∧ Below w.heap.size w w' := by
 have HT := hide hT
 clear hT
 have x2 := xf_from
 go_enter Tryd.func8,Tryd.ntmps8
 go_wp2_with fail
 refine (alive_any _ (((unhide HT).alloc _))).mono ?_
 rintro e w1 ⟨rfl,hb1⟩
 have hS := (Fs.one w _ _).kept hb1
 obtain ⟨⟨z1_0_0,z1_0_1,-⟩,-⟩ := hS.cells
 go_wp2_with fail
 refine (unhide hv0 _).mono ?_
 rintro e w2 ⟨rfl,hb2⟩
 replace hS := hS.kept hb2
 clear z1_0_0 z1_0_1
 obtain ⟨⟨z2_0_0,z2_0_1,-⟩,-⟩ := hS.cells
 have hltw2_0 : w.heap.size < w2.heap.size := block_lt (hS.bx ⟨w.heap.size,#[.int .i64 E,.int .i64 F],38⟩ (by simp))
 replace hS := hS.alloc #[.bool false,.slice none 0 0,.int .i64 0] 26
 go_wp2_with fail
 refine (Double4 _).mono ?_
 rintro e w3 ⟨rfl,hb3⟩
 replace hS := hS.kept hb3
 clear z2_0_0 z2_0_1
 obtain ⟨⟨z3_0_0,z3_0_1,z3_0_2,-⟩,⟨z3_1_0,z3_1_1,-⟩,-⟩ := hS.cells
 go_wp2_with fail
 refine (unhide hvx _ ((unhide HT).kept hS.fr)).mono ?_
 rintro e w4 ⟨⟨A1,N1,C1,rfl,f1⟩,hb4⟩
 replace hS := hS.kept hb4
 clear z3_0_0 z3_0_1 z3_0_2 z3_1_0 z3_1_1
 obtain ⟨⟨z4_0_0,z4_0_1,z4_0_2,-⟩,⟨z4_1_0,z4_1_1,-⟩,-⟩ := hS.cells
 have G1 := hide f1
 clear f1
 have hltw4_0 : w2.heap.size < w4.heap.size := block_lt (hS.bx ⟨w2.heap.size,#[.bool false,.slice none 0 0,.int .i64 0],26⟩ (by simp))
 have hltw4_1 : w.heap.size < w4.heap.size := block_lt (hS.bx ⟨w.heap.size,#[.int .i64 E,.int .i64 F],38⟩ (by simp))
 replace hS := hS.alloc #[.bool sx,.slice A1 N1 C1,.int .i64 ex] 26
 replace G1 := hide ((unhide G1).alloc (.cells #[.bool sx,.slice A1 N1 C1,.int .i64 ex] 26))
 go_wp2_with fail
 refine (Double4 _).mono ?_
 rintro e w5 ⟨rfl,hb5⟩
 replace hS := hS.kept hb5
 clear z4_0_0 z4_0_1 z4_0_2 z4_1_0 z4_1_1
 obtain ⟨⟨z5_0_0,z5_0_1,z5_0_2,-⟩,⟨z5_1_0,z5_1_1,z5_1_2,-⟩,⟨z5_2_0,z5_2_1,-⟩,-⟩ := hS.cells
 replace G1 := hide ((unhide G1).kept hb5)
 go_wp2_with fail
 refine (unhide hvy _ ((unhide HT).kept hS.fr)).mono ?_
 rintro e w6 ⟨⟨A2,N2,C2,rfl,f2⟩,hb6⟩
 replace hS := hS.kept hb6
 clear z5_0_0 z5_0_1 z5_0_2 z5_1_0 z5_1_1 z5_1_2 z5_2_0 z5_2_1
 obtain ⟨⟨z6_0_0,z6_0_1,z6_0_2,-⟩,⟨z6_1_0,z6_1_1,z6_1_2,-⟩,⟨z6_2_0,z6_2_1,-⟩,-⟩ := hS.cells
 replace G1 := hide ((unhide G1).kept hb6)
 have G2 := hide f2
 clear f2
 have hltw6_0 : w4.heap.size < w6.heap.size := block_lt (hS.bx ⟨w4.heap.size,#[.bool sx,.slice A1 N1 C1,.int .i64 ex],26⟩ (by simp))
 have hltw6_1 : w2.heap.size < w6.heap.size := block_lt (hS.bx ⟨w2.heap.size,#[.bool false,.slice none 0 0,.int .i64 0],26⟩ (by simp))
 have hltw6_2 : w.heap.size < w6.heap.size := block_lt (hS.bx ⟨w.heap.size,#[.int .i64 E,.int .i64 F],38⟩ (by simp))
 replace hS := hS.alloc #[.bool sy,.slice A2 N2 C2,.int .i64 ey] 26
 replace G1 := hide ((unhide G1).alloc (.cells #[.bool sy,.slice A2 N2 C2,.int .i64 ey] 26))
 replace G2 := hide ((unhide G2).alloc (.cells #[.bool sy,.slice A2 N2 C2,.int .i64 ey] 26))
 go_wp2_with fail
 refine (unhide hcm _ A1 N1 C1 A2 N2 C2 (unhide G1) (unhide G2)).mono ?_
 rintro e w7 ⟨rfl,hb7⟩
 replace hS := hS.kept hb7
 clear z6_0_0 z6_0_1 z6_0_2 z6_1_0 z6_1_1 z6_1_2 z6_2_0 z6_2_1
 obtain ⟨⟨z7_0_0,z7_0_1,z7_0_2,-⟩,⟨z7_1_0,z7_1_1,z7_1_2,-⟩,⟨z7_2_0,z7_2_1,z7_2_2,-⟩,⟨z7_3_0,z7_3_1,-⟩,-⟩ := hS.cells
 replace G1 := hide ((unhide G1).kept hb7)
 replace G2 := hide ((unhide G2).kept hb7)
 go_wp2
 go_ret
 first | exact ⟨rfl,hS.fr⟩ | exact ⟨rfl,hS.fr.drew⟩ | exact ⟨rfl,hS.fr.drew.drew⟩
set_option maxRecDepth 20000 in
set_option maxHeartbeats 8000000 in
theorem xf_A_xn (E F : Int) (b x y : Nat) (er : Int) (sx : Bool) (mx : Nat) (ex : Int) (gy : Int) (ry : World → Nat) (w : World) (hT : Tb w) (hv0 : Hid (∀ W : World,Calls Tryd.prog 18 #[.agg #[.int .i64 E,.int .i64 F],.int .u64 b] W fun e w' => e = .returned (.tuple #[.agg #[.bool false,.slice none 0 0,.int .i64 0],.int .i64 er]) ∧ Below W.heap.size W w')) (her : (er == 0) = false) (hvx : Hid (∀ W : World,Tb W → Calls Tryd.prog 18 #[.agg #[.int .i64 11,.int .i64 52],.int .u64 x] W fun e w' => (∃ A N C,e = .returned (.tuple #[.agg #[.bool sx,.slice A N C,.int .i64 ex],.int .i64 0]) ∧ Num w' A N mx) ∧ Below W.heap.size W w')) (hsx : ∀ W : World,(binOp BinOp.sub 69 (.float .f64 x) (.float .f64 x)).run Tryd.prog W = .ok (.float .f64 0) W) (hvy : Hid (∀ W : World,Calls Tryd.prog 18 #[.agg #[.int .i64 11,.int .i64 52],.int .u64 y] W fun e w' => e = .returned (.tuple #[.agg #[.bool false,.slice none 0 0,.int .i64 0],.int .i64 gy]) ∧ Below W.heap.size W w')) (hgy : (gy == 0) = false) (hgy2 : (gy != 0) = true) (hsy : ∀ W : World,(binOp BinOp.sub 69 (.float .f64 y) (.float .f64 y)).run Tryd.prog W = .ok (.float .f64 (ry W)) W.drew) (hry : ∀ W,FloatKind.f64.format.order (ry W) 0 = none)  :
  Calls Tryd.prog 8 #[.agg #[.int .i64 E,.int .i64 F],.int .u64 b,.int .u64 x,.int .u64 y] w fun e w' => e = .returned (.bool true) ∧ Below w.heap.size w w' := by
 have HT := hide hT
 clear hT
 have x2 := xf_from
 go_enter Tryd.func8,Tryd.ntmps8
 go_wp2_with fail
 refine (alive_any _ (((unhide HT).alloc _))).mono ?_
 rintro e w1 ⟨rfl,hb1⟩
 have hS := (Fs.one w _ _).kept hb1
 obtain ⟨⟨z1_0_0,z1_0_1,-⟩,-⟩ := hS.cells
 go_wp2_with fail
 refine (unhide hv0 _).mono ?_
 rintro e w2 ⟨rfl,hb2⟩
 replace hS := hS.kept hb2
 clear z1_0_0 z1_0_1
 obtain ⟨⟨z2_0_0,z2_0_1,-⟩,-⟩ := hS.cells
 have hltw2_0 : w.heap.size < w2.heap.size := block_lt (hS.bx ⟨w.heap.size,#[.int .i64 E,.int .i64 F],38⟩ (by simp))
 replace hS := hS.alloc #[.bool false,.slice none 0 0,.int .i64 0] 26
 go_wp2_with fail
 refine (Double4 _).mono ?_
 rintro e w3 ⟨rfl,hb3⟩
 replace hS := hS.kept hb3
 clear z2_0_0 z2_0_1
 obtain ⟨⟨z3_0_0,z3_0_1,z3_0_2,-⟩,⟨z3_1_0,z3_1_1,-⟩,-⟩ := hS.cells
 go_wp2_with fail
 refine (unhide hvx _ ((unhide HT).kept hS.fr)).mono ?_
 rintro e w4 ⟨⟨A1,N1,C1,rfl,f1⟩,hb4⟩
 replace hS := hS.kept hb4
 clear z3_0_0 z3_0_1 z3_0_2 z3_1_0 z3_1_1
 obtain ⟨⟨z4_0_0,z4_0_1,z4_0_2,-⟩,⟨z4_1_0,z4_1_1,-⟩,-⟩ := hS.cells
 have G1 := hide f1
 clear f1
 have hltw4_0 : w2.heap.size < w4.heap.size := block_lt (hS.bx ⟨w2.heap.size,#[.bool false,.slice none 0 0,.int .i64 0],26⟩ (by simp))
 have hltw4_1 : w.heap.size < w4.heap.size := block_lt (hS.bx ⟨w.heap.size,#[.int .i64 E,.int .i64 F],38⟩ (by simp))
 replace hS := hS.alloc #[.bool sx,.slice A1 N1 C1,.int .i64 ex] 26
 replace G1 := hide ((unhide G1).alloc (.cells #[.bool sx,.slice A1 N1 C1,.int .i64 ex] 26))
 go_wp2_with fail
 refine (Double4 _).mono ?_
 rintro e w5 ⟨rfl,hb5⟩
 replace hS := hS.kept hb5
 clear z4_0_0 z4_0_1 z4_0_2 z4_1_0 z4_1_1
 obtain ⟨⟨z5_0_0,z5_0_1,z5_0_2,-⟩,⟨z5_1_0,z5_1_1,z5_1_2,-⟩,⟨z5_2_0,z5_2_1,-⟩,-⟩ := hS.cells
 replace G1 := hide ((unhide G1).kept hb5)
 go_wp2_with fail
 refine (unhide hvy _).mono ?_
 rintro e w6 ⟨rfl,hb6⟩
 replace hS := hS.kept hb6
 clear z5_0_0 z5_0_1 z5_0_2 z5_1_0 z5_1_1 z5_1_2 z5_2_0 z5_2_1
 obtain ⟨⟨z6_0_0,z6_0_1,z6_0_2,-⟩,⟨z6_1_0,z6_1_1,z6_1_2,-⟩,⟨z6_2_0,z6_2_1,-⟩,-⟩ := hS.cells
 replace G1 := hide ((unhide G1).kept hb6)
 have hltw6_0 : w4.heap.size < w6.heap.size := block_lt (hS.bx ⟨w4.heap.size,#[.bool sx,.slice A1 N1 C1,.int .i64 ex],26⟩ (by simp))
 have hltw6_1 : w2.heap.size < w6.heap.size := block_lt (hS.bx ⟨w2.heap.size,#[.bool false,.slice none 0 0,.int .i64 0],26⟩ (by simp))
 have hltw6_2 : w.heap.size < w6.heap.size := block_lt (hS.bx ⟨w.heap.size,#[.int .i64 E,.int .i64 F],38⟩ (by simp))
 replace hS := hS.alloc #[.bool false,.slice none 0 0,.int .i64 0] 26
 replace G1 := hide ((unhide G1).alloc (.cells #[.bool false,.slice none 0 0,.int .i64 0] 26))
 go_wp2
 go_ret
 first | exact ⟨rfl,hS.fr⟩ | exact ⟨rfl,hS.fr.drew⟩ | exact ⟨rfl,hS.fr.drew.drew⟩
set_option maxRecDepth 20000 in
set_option maxHeartbeats 8000000 in
theorem xf_A_nx (E F : Int) (b x y : Nat) (er : Int) (gx : Int) (rx : World → Nat) (sy : Bool) (my : Nat) (ey : Int) (w : World) (hT : Tb w) (hv0 : Hid (∀ W : World,Calls Tryd.prog 18 #[.agg #[.int .i64 E,.int .i64 F],.int .u64 b] W fun e w' => e = .returned (.tuple #[.agg #[.bool false,.slice none 0 0,.int .i64 0],.int .i64 er]) ∧ Below W.heap.size W w')) (her : (er == 0) = false) (hvx : Hid (∀ W : World,Calls Tryd.prog 18 #[.agg #[.int .i64 11,.int .i64 52],.int .u64 x] W fun e w' => e = .returned (.tuple #[.agg #[.bool false,.slice none 0 0,.int .i64 0],.int .i64 gx]) ∧ Below W.heap.size W w')) (hgx : (gx == 0) = false) (hgx2 : (gx != 0) = true) (hsx : ∀ W : World,(binOp BinOp.sub 69 (.float .f64 x) (.float .f64 x)).run Tryd.prog W = .ok (.float .f64 (rx W)) W.drew) (hrx : ∀ W,FloatKind.f64.format.order (rx W) 0 = none) (hvy : Hid (∀ W : World,Tb W → Calls Tryd.prog 18 #[.agg #[.int .i64 11,.int .i64 52],.int .u64 y] W fun e w' => (∃ A N C,e = .returned (.tuple #[.agg #[.bool sy,.slice A N C,.int .i64 ey],.int .i64 0]) ∧ Num w' A N my) ∧ Below W.heap.size W w')) (hsy : ∀ W : World,(binOp BinOp.sub 69 (.float .f64 y) (.float .f64 y)).run Tryd.prog W = .ok (.float .f64 0) W)  :
  Calls Tryd.prog 8 #[.agg #[.int .i64 E,.int .i64 F],.int .u64 b,.int .u64 x,.int .u64 y] w fun e w' => e = .returned (.bool true) ∧ Below w.heap.size w w' := by
 have HT := hide hT
 clear hT
 have x2 := xf_from
 go_enter Tryd.func8,Tryd.ntmps8
 go_wp2_with fail
 refine (alive_any _ (((unhide HT).alloc _))).mono ?_
 rintro e w1 ⟨rfl,hb1⟩
 have hS := (Fs.one w _ _).kept hb1
 obtain ⟨⟨z1_0_0,z1_0_1,-⟩,-⟩ := hS.cells
 go_wp2_with fail
 refine (unhide hv0 _).mono ?_
 rintro e w2 ⟨rfl,hb2⟩
 replace hS := hS.kept hb2
 clear z1_0_0 z1_0_1
 obtain ⟨⟨z2_0_0,z2_0_1,-⟩,-⟩ := hS.cells
 have hltw2_0 : w.heap.size < w2.heap.size := block_lt (hS.bx ⟨w.heap.size,#[.int .i64 E,.int .i64 F],38⟩ (by simp))
 replace hS := hS.alloc #[.bool false,.slice none 0 0,.int .i64 0] 26
 go_wp2_with fail
 refine (Double4 _).mono ?_
 rintro e w3 ⟨rfl,hb3⟩
 replace hS := hS.kept hb3
 clear z2_0_0 z2_0_1
 obtain ⟨⟨z3_0_0,z3_0_1,z3_0_2,-⟩,⟨z3_1_0,z3_1_1,-⟩,-⟩ := hS.cells
 go_wp2_with fail
 refine (unhide hvx _).mono ?_
 rintro e w4 ⟨rfl,hb4⟩
 replace hS := hS.kept hb4
 clear z3_0_0 z3_0_1 z3_0_2 z3_1_0 z3_1_1
 obtain ⟨⟨z4_0_0,z4_0_1,z4_0_2,-⟩,⟨z4_1_0,z4_1_1,-⟩,-⟩ := hS.cells
 have hltw4_0 : w2.heap.size < w4.heap.size := block_lt (hS.bx ⟨w2.heap.size,#[.bool false,.slice none 0 0,.int .i64 0],26⟩ (by simp))
 have hltw4_1 : w.heap.size < w4.heap.size := block_lt (hS.bx ⟨w.heap.size,#[.int .i64 E,.int .i64 F],38⟩ (by simp))
 replace hS := hS.alloc #[.bool false,.slice none 0 0,.int .i64 0] 26
 go_wp2_with fail
 refine (Double4 _).mono ?_
 rintro e w5 ⟨rfl,hb5⟩
 replace hS := hS.kept hb5
 clear z4_0_0 z4_0_1 z4_0_2 z4_1_0 z4_1_1
 obtain ⟨⟨z5_0_0,z5_0_1,z5_0_2,-⟩,⟨z5_1_0,z5_1_1,z5_1_2,-⟩,⟨z5_2_0,z5_2_1,-⟩,-⟩ := hS.cells
 go_wp2_with fail
 refine (unhide hvy _ ((unhide HT).kept hS.fr)).mono ?_
 rintro e w6 ⟨⟨A2,N2,C2,rfl,f2⟩,hb6⟩
 replace hS := hS.kept hb6
 clear z5_0_0 z5_0_1 z5_0_2 z5_1_0 z5_1_1 z5_1_2 z5_2_0 z5_2_1
 obtain ⟨⟨z6_0_0,z6_0_1,z6_0_2,-⟩,⟨z6_1_0,z6_1_1,z6_1_2,-⟩,⟨z6_2_0,z6_2_1,-⟩,-⟩ := hS.cells
 have G2 := hide f2
 clear f2
 have hltw6_0 : w4.heap.size < w6.heap.size := block_lt (hS.bx ⟨w4.heap.size,#[.bool false,.slice none 0 0,.int .i64 0],26⟩ (by simp))
 have hltw6_1 : w2.heap.size < w6.heap.size := block_lt (hS.bx ⟨w2.heap.size,#[.bool false,.slice none 0 0,.int .i64 0],26⟩ (by simp))
 have hltw6_2 : w.heap.size < w6.heap.size := block_lt (hS.bx ⟨w.heap.size,#[.int .i64 E,.int .i64 F],38⟩ (by simp))
 replace hS := hS.alloc #[.bool sy,.slice A2 N2 C2,.int .i64 ey] 26
 replace G2 := hide ((unhide G2).alloc (.cells #[.bool sy,.slice A2 N2 C2,.int .i64 ey] 26))
 go_wp2
 go_ret
 first | exact ⟨rfl,hS.fr⟩ | exact ⟨rfl,hS.fr.drew⟩ | exact ⟨rfl,hS.fr.drew.drew⟩
set_option maxRecDepth 20000 in
set_option maxHeartbeats 8000000 in
theorem xf_A_nn (E F : Int) (b x y : Nat) (er : Int) (gx : Int) (rx : World → Nat) (gy : Int) (ry : World → Nat) (w : World) (hT : Tb w) (hv0 : Hid (∀ W : World,Calls Tryd.prog 18 #[.agg #[.int .i64 E,.int .i64 F],.int .u64 b] W fun e w' => e = .returned (.tuple #[.agg #[.bool false,.slice none 0 0,.int .i64 0],.int .i64 er]) ∧ Below W.heap.size W w')) (her : (er == 0) = false) (hvx : Hid (∀ W : World,Calls Tryd.prog 18 #[.agg #[.int .i64 11,.int .i64 52],.int .u64 x] W fun e w' => e = .returned (.tuple #[.agg #[.bool false,.slice none 0 0,.int .i64 0],.int .i64 gx]) ∧ Below W.heap.size W w')) (hgx : (gx == 0) = false) (hgx2 : (gx != 0) = true) (hsx : ∀ W : World,(binOp BinOp.sub 69 (.float .f64 x) (.float .f64 x)).run Tryd.prog W = .ok (.float .f64 (rx W)) W.drew) (hrx : ∀ W,FloatKind.f64.format.order (rx W) 0 = none) (hvy : Hid (∀ W : World,Calls Tryd.prog 18 #[.agg #[.int .i64 11,.int .i64 52],.int .u64 y] W fun e w' => e = .returned (.tuple #[.agg #[.bool false,.slice none 0 0,.int .i64 0],.int .i64 gy]) ∧ Below W.heap.size W w')) (hgy : (gy == 0) = false) (hsy : ∀ W : World,(binOp BinOp.sub 69 (.float .f64 y) (.float .f64 y)).run Tryd.prog W = .ok (.float .f64 (ry W)) W.drew) (hry : ∀ W,FloatKind.f64.format.order (ry W) 0 = none)  :
  Calls Tryd.prog 8 #[.agg #[.int .i64 E,.int .i64 F],.int .u64 b,.int .u64 x,.int .u64 y] w fun e w' => e = .returned (.bool true) ∧ Below w.heap.size w w' := by
 have HT := hide hT
 clear hT
 have x2 := xf_from
 go_enter Tryd.func8,Tryd.ntmps8
 go_wp2_with fail
 refine (alive_any _ (((unhide HT).alloc _))).mono ?_
 rintro e w1 ⟨rfl,hb1⟩
 have hS := (Fs.one w _ _).kept hb1
 obtain ⟨⟨z1_0_0,z1_0_1,-⟩,-⟩ := hS.cells
 go_wp2_with fail
 refine (unhide hv0 _).mono ?_
 rintro e w2 ⟨rfl,hb2⟩
 replace hS := hS.kept hb2
 clear z1_0_0 z1_0_1
 obtain ⟨⟨z2_0_0,z2_0_1,-⟩,-⟩ := hS.cells
 have hltw2_0 : w.heap.size < w2.heap.size := block_lt (hS.bx ⟨w.heap.size,#[.int .i64 E,.int .i64 F],38⟩ (by simp))
 replace hS := hS.alloc #[.bool false,.slice none 0 0,.int .i64 0] 26
 go_wp2_with fail
 refine (Double4 _).mono ?_
 rintro e w3 ⟨rfl,hb3⟩
 replace hS := hS.kept hb3
 clear z2_0_0 z2_0_1
 obtain ⟨⟨z3_0_0,z3_0_1,z3_0_2,-⟩,⟨z3_1_0,z3_1_1,-⟩,-⟩ := hS.cells
 go_wp2_with fail
 refine (unhide hvx _).mono ?_
 rintro e w4 ⟨rfl,hb4⟩
 replace hS := hS.kept hb4
 clear z3_0_0 z3_0_1 z3_0_2 z3_1_0 z3_1_1
 obtain ⟨⟨z4_0_0,z4_0_1,z4_0_2,-⟩,⟨z4_1_0,z4_1_1,-⟩,-⟩ := hS.cells
 have hltw4_0 : w2.heap.size < w4.heap.size := block_lt (hS.bx ⟨w2.heap.size,#[.bool false,.slice none 0 0,.int .i64 0],26⟩ (by simp))
 have hltw4_1 : w.heap.size < w4.heap.size := block_lt (hS.bx ⟨w.heap.size,#[.int .i64 E,.int .i64 F],38⟩ (by simp))
 replace hS := hS.alloc #[.bool false,.slice none 0 0,.int .i64 0] 26
 go_wp2_with fail
 refine (Double4 _).mono ?_
 rintro e w5 ⟨rfl,hb5⟩
 replace hS := hS.kept hb5
 clear z4_0_0 z4_0_1 z4_0_2 z4_1_0 z4_1_1
 obtain ⟨⟨z5_0_0,z5_0_1,z5_0_2,-⟩,⟨z5_1_0,z5_1_1,z5_1_2,-⟩,⟨z5_2_0,z5_2_1,-⟩,-⟩ := hS.cells
 go_wp2_with fail
 refine (unhide hvy _).mono ?_
 rintro e w6 ⟨rfl,hb6⟩
 replace hS := hS.kept hb6
 clear z5_0_0 z5_0_1 z5_0_2 z5_1_0 z5_1_1 z5_1_2 z5_2_0 z5_2_1
 obtain ⟨⟨z6_0_0,z6_0_1,z6_0_2,-⟩,⟨z6_1_0,z6_1_1,z6_1_2,-⟩,⟨z6_2_0,z6_2_1,-⟩,-⟩ := hS.cells
 have hltw6_0 : w4.heap.size < w6.heap.size := block_lt (hS.bx ⟨w4.heap.size,#[.bool false,.slice none 0 0,.int .i64 0],26⟩ (by simp))
 have hltw6_1 : w2.heap.size < w6.heap.size := block_lt (hS.bx ⟨w2.heap.size,#[.bool false,.slice none 0 0,.int .i64 0],26⟩ (by simp))
 have hltw6_2 : w.heap.size < w6.heap.size := block_lt (hS.bx ⟨w.heap.size,#[.int .i64 E,.int .i64 F],38⟩ (by simp))
 replace hS := hS.alloc #[.bool false,.slice none 0 0,.int .i64 0] 26
 go_wp2
 go_ret
 first | exact ⟨rfl,hS.fr⟩ | exact ⟨rfl,hS.fr.drew⟩ | exact ⟨rfl,hS.fr.drew.drew⟩
end Go.Proofs.YtjemjhaphannaaaDoor
