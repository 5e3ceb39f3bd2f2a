/- Of what ExactBitsRow stands on: RefUpDown ExCheck ExOwn. -/
import Derived.Test.YtjemjhaphannaaaPan
import Derived.Test.YtjemjhaphannaaaPao
import Derived.Test.YtjemjhaphannaaaPal
import Derived.Test.YtjemjhaphannaaaPaf
import Derived.BigQuiet
import Derived.Test.YtjemjhaphannaaaPab
import Derived.Test.YtjemjhaphannaaaPah
namespace Go.Proofs.Ytjemjhaphannaaa
open Go.RowKit
theorem rcheck_num (a : Option Addr) (n cap m : Nat) (w : World) (h : Num w a n m) :
  Calls Try.prog 25 #[.agg #[.slice a n cap]] w fun e w' => e = .returned (.int .i64 0) ∧ Below w.heap.size w w' := by
 obtain ⟨xs,hn,hl,hw,hN,hv,hb⟩ := h
 have := rcheck_any a cap xs w (by omega) hl
 rw [hn,chk_ok (by omega) hN] at this
 exact this
end Go.Proofs.Ytjemjhaphannaaa
namespace Go.Proofs.Ytjemjhaphannaaa
open Go.RowKit
def Far (x : Int) : Prop := x < -1073741824 ∨ 1073741824 < x
instance (x : Int) : Decidable (Far x) := by unfold Far; infer_instance
def dck (s : Bool) (xs : List Nat) (x : Int) : Int :=
 if chk xs ≠ 0 then chk xs else if xs.length = 0 then (if s = true ∨ x ≠ 0 then 40 else 0) else if Pl.val xs % 2 = 0 ∨ Far x then 40 else 0
theorem low_even {x : Nat} {r : List Nat} : Pl.val (x :: r) % 2 = x % 2 := by
 rw [Pl.val]; omega
set_option maxHeartbeats 400000 in
theorem isNought_yes (a : Option Addr) (cap : Nat) (w : World)  :
  Calls Try.prog 22 #[.agg #[.slice a 0 cap]] w fun e w' => e = .returned (.bool true) ∧ Below w.heap.size w w' := by
 go_enter Try.func22,Try.ntmps22
 go_wp2
 go_ret
 exact ⟨rfl,(Fs.one w _ _).fr⟩
set_option maxHeartbeats 400000 in
theorem isNought_no (a : Option Addr) (n cap : Nat) (hn : 0 < n) (w : World)  :
  Calls Try.prog 22 #[.agg #[.slice a n cap]] w fun e w' => e = .returned (.bool false) ∧ Below w.heap.size w w' := by
 go_enter Try.func22,Try.ntmps22
 go_wp2
 go_ret
 exact ⟨ret_bool (by simp <;> omega),(Fs.one w _ _).fr⟩
set_option maxHeartbeats 400000 in
theorem rnone_yes (a : Option Addr) (cap : Nat) (w : World)  :
  Calls Try.prog 11 #[.agg #[.slice a 0 cap]] w fun e w' => e = .returned (.bool true) ∧ Below w.heap.size w w' := by
 go_enter Try.func11,Try.ntmps11
 go_wp2
 go_ret
 exact ⟨rfl,(Fs.one w _ _).fr⟩
set_option maxHeartbeats 400000 in
theorem rnone_no (a : Option Addr) (n cap : Nat) (hn : 0 < n) (w : World)  :
  Calls Try.prog 11 #[.agg #[.slice a n cap]] w fun e w' => e = .returned (.bool false) ∧ Below w.heap.size w w' := by
 go_enter Try.func11,Try.ntmps11
 go_wp2
 go_ret
 exact ⟨ret_bool (by simp <;> omega),(Fs.one w _ _).fr⟩
set_option maxHeartbeats 400000 in
theorem beyond_no (x : Int) (hx : -1073741824 ≤ x ∧ x ≤ 1073741824) (w : World)  :
  Calls Try.prog 24 #[.int .i64 x] w fun e w' => e = .returned (.bool false) ∧ Below w.heap.size w w' := by
 go_enter Try.func24,Try.ntmps24
 go_wp2
 go_ret
 exact ⟨ret_bool (by simp <;> omega),(Fs.begin w).fr⟩
set_option maxHeartbeats 400000 in
theorem beyond_below (x : Int) (hx : x < -1073741824) (w : World)  :
  Calls Try.prog 24 #[.int .i64 x] w fun e w' => e = .returned (.bool true) ∧ Below w.heap.size w w' := by
 go_enter Try.func24,Try.ntmps24
 go_wp2
 go_ret
 exact ⟨ret_bool (by simp <;> omega),(Fs.begin w).fr⟩
set_option maxHeartbeats 400000 in
theorem beyond_above (x : Int) (hx : 1073741824 < x) (w : World)  :
  Calls Try.prog 24 #[.int .i64 x] w fun e w' => e = .returned (.bool true) ∧ Below w.heap.size w w' := by
 go_enter Try.func24,Try.ntmps24
 go_wp2
 go_ret
 exact ⟨ret_bool (by simp <;> omega),(Fs.begin w).fr⟩
set_option maxHeartbeats 400000 in
theorem rfar_no (x : Int) (hx : -1073741824 ≤ x ∧ x ≤ 1073741824) (w : World)  :
  Calls Try.prog 26 #[.int .i64 x] w fun e w' => e = .returned (.bool false) ∧ Below w.heap.size w w' := by
 go_enter Try.func26,Try.ntmps26
 go_wp2
 go_ret
 exact ⟨ret_bool (by simp <;> omega),(Fs.begin w).fr⟩
set_option maxHeartbeats 400000 in
theorem rfar_below (x : Int) (hx : x < -1073741824) (w : World)  :
  Calls Try.prog 26 #[.int .i64 x] w fun e w' => e = .returned (.bool true) ∧ Below w.heap.size w w' := by
 go_enter Try.func26,Try.ntmps26
 go_wp2
 go_ret
 exact ⟨ret_bool (by simp <;> omega),(Fs.begin w).fr⟩
set_option maxHeartbeats 400000 in
theorem rfar_above (x : Int) (hx : 1073741824 < x) (w : World)  :
  Calls Try.prog 26 #[.int .i64 x] w fun e w' => e = .returned (.bool true) ∧ Below w.heap.size w w' := by
 go_enter Try.func26,Try.ntmps26
 go_wp2
 go_ret
 exact ⟨ret_bool (by simp <;> omega),(Fs.begin w).fr⟩
theorem bit0_odd (a : Option Addr) (n cap m : Nat) (w : World) (h : Num w a n m) (hm : m % 2 = 1) :
  Calls Try.prog 23 #[.agg #[.slice a n cap],.int .i64 0] w fun e w' => e = .returned (.tuple #[.bool true,.int .i64 0]) ∧ Below w.heap.size w w' := by
 have := bit_any a n cap m 0 w h (by omega)
 rw [show decide (m / 2 ^ 0 % 2 = 1) = true from by simp [hm]] at this
 exact this
theorem bit0_even (a : Option Addr) (n cap m : Nat) (w : World) (h : Num w a n m) (hm : m % 2 = 0) :
  Calls Try.prog 23 #[.agg #[.slice a n cap],.int .i64 0] w fun e w' => e = .returned (.tuple #[.bool false,.int .i64 0]) ∧ Below w.heap.size w w' := by
 have := bit_any a n cap m 0 w h (by omega)
 rw [show decide (m / 2 ^ 0 % 2 = 1) = false from by simp [hm]] at this
 exact this
set_option maxHeartbeats 400000 in
theorem dcheck_bad (s : Bool) (a : Option Addr) (n cap : Nat) (xs : List Nat) (x : Int) (w : World) (hn : xs.length = n) (hbig : n ≤ 9223372036854775807) (hl : Lim w a xs) (hc : chk xs ≠ 0) :
  Calls Try.prog 7 #[.agg #[.bool s,.slice a n cap,.int .i64 x]] w fun e w' => e = .returned (.int .i64 (chk xs)) ∧ Below w.heap.size w w' := by
 have hcb : (chk xs != 0) = true := by simpa using hc
 have HL := hide hl
 subst hn
 clear hl hc
 go_enter Try.func7,Try.ntmps7
 go_wp2_with fail
 refine (check_any a cap xs _ hbig ((unhide HL).alloc _)).mono ?_
 rintro e w1 ⟨rfl,hb1⟩
 have hS := (Fs.one w _ _).kept hb1
 obtain ⟨⟨z1_0_0,z1_0_1,z1_0_2,-⟩,-⟩ := hS.cells
 go_wp2
 go_ret
 exact ⟨rfl,hS.fr⟩
set_option maxHeartbeats 400000 in
theorem dcheck_nil (s : Bool) (a : Option Addr) (cap : Nat) (x : Int) (w : World) (h : Num w a 0 0) :
  Calls Try.prog 7 #[.agg #[.bool s,.slice a 0 cap,.int .i64 x]] w fun e w' => e = .returned (.int .i64 (if s = true ∨ x ≠ 0 then 40 else 0)) ∧ Below w.heap.size w w' := by
 have H := hide h
 clear h
 go_enter Try.func7,Try.ntmps7
 go_wp2_with fail
 refine (check_num a 0 cap 0 _ ((unhide H).kept (gr_alloc _ _))).mono ?_
 rintro e w1 ⟨rfl,hb1⟩
 have hS := (Fs.one w _ _).kept hb1
 obtain ⟨⟨z1_0_0,z1_0_1,z1_0_2,-⟩,-⟩ := hS.cells
 go_wp2_with fail
 refine (isNought_yes a cap _).mono ?_
 rintro e w2 ⟨rfl,hb2⟩
 replace hS := hS.kept hb2
 clear z1_0_0 z1_0_1 z1_0_2
 obtain ⟨⟨z2_0_0,z2_0_1,z2_0_2,-⟩,-⟩ := hS.cells
 by_cases hs : s = true
 ·subst hs
  go_wp2
  go_ret
  exact ⟨by simp,hS.fr⟩
 ·obtain rfl : s = false := by cases s <;> simp_all
  by_cases hx : x = 0
  ·subst hx
   go_wp2
   go_ret
   exact ⟨by simp,hS.fr⟩
  ·go_wp2
   go_ret
   exact ⟨by simp,hS.fr⟩
set_option maxHeartbeats 400000 in
theorem dcheck_even (s : Bool) (a : Option Addr) (n cap m : Nat) (x : Int) (w : World) (h : Num w a n m) (hn : 0 < n) (hm : m % 2 = 0) :
  Calls Try.prog 7 #[.agg #[.bool s,.slice a n cap,.int .i64 x]] w fun e w' => e = .returned (.int .i64 40) ∧ Below w.heap.size w w' := by
 have H := hide h
 have HM := hide hm
 clear h hm
 go_enter Try.func7,Try.ntmps7
 go_wp2_with fail
 refine (check_num a n cap m _ ((unhide H).kept (gr_alloc _ _))).mono ?_
 rintro e w1 ⟨rfl,hb1⟩
 have hS := (Fs.one w _ _).kept hb1
 obtain ⟨⟨z1_0_0,z1_0_1,z1_0_2,-⟩,-⟩ := hS.cells
 go_wp2_with fail
 refine (isNought_no a n cap hn _).mono ?_
 rintro e w2 ⟨rfl,hb2⟩
 replace hS := hS.kept hb2
 clear z1_0_0 z1_0_1 z1_0_2
 obtain ⟨⟨z2_0_0,z2_0_1,z2_0_2,-⟩,-⟩ := hS.cells
 go_wp2_with fail
 refine (bit0_even a n cap m _ ((unhide H).kept hS.fr) (unhide HM)).mono ?_
 rintro e w3 ⟨rfl,hb3⟩
 replace hS := hS.kept hb3
 clear z2_0_0 z2_0_1 z2_0_2
 obtain ⟨⟨z3_0_0,z3_0_1,z3_0_2,-⟩,-⟩ := hS.cells
 go_wp2
 go_ret
 exact ⟨rfl,hS.fr⟩
set_option maxHeartbeats 400000 in
theorem dcheck_below (s : Bool) (a : Option Addr) (n cap m : Nat) (x : Int) (w : World) (h : Num w a n m) (hn : 0 < n) (hm : m % 2 = 1) (hx : x < -1073741824) :
  Calls Try.prog 7 #[.agg #[.bool s,.slice a n cap,.int .i64 x]] w fun e w' => e = .returned (.int .i64 40) ∧ Below w.heap.size w w' := by
 have H := hide h
 have HM := hide hm
 clear h hm
 go_enter Try.func7,Try.ntmps7
 go_wp2_with fail
 refine (check_num a n cap m _ ((unhide H).kept (gr_alloc _ _))).mono ?_
 rintro e w1 ⟨rfl,hb1⟩
 have hS := (Fs.one w _ _).kept hb1
 obtain ⟨⟨z1_0_0,z1_0_1,z1_0_2,-⟩,-⟩ := hS.cells
 go_wp2_with fail
 refine (isNought_no a n cap hn _).mono ?_
 rintro e w2 ⟨rfl,hb2⟩
 replace hS := hS.kept hb2
 clear z1_0_0 z1_0_1 z1_0_2
 obtain ⟨⟨z2_0_0,z2_0_1,z2_0_2,-⟩,-⟩ := hS.cells
 go_wp2_with fail
 refine (bit0_odd a n cap m _ ((unhide H).kept hS.fr) (unhide HM)).mono ?_
 rintro e w3 ⟨rfl,hb3⟩
 replace hS := hS.kept hb3
 clear z2_0_0 z2_0_1 z2_0_2
 obtain ⟨⟨z3_0_0,z3_0_1,z3_0_2,-⟩,-⟩ := hS.cells
 go_wp2_with fail
 refine (beyond_below _ hx _).mono ?_
 rintro e w4 ⟨rfl,hb4⟩
 replace hS := hS.kept hb4
 clear z3_0_0 z3_0_1 z3_0_2
 obtain ⟨⟨z4_0_0,z4_0_1,z4_0_2,-⟩,-⟩ := hS.cells
 go_wp2
 go_ret
 exact ⟨rfl,hS.fr⟩
set_option maxHeartbeats 400000 in
theorem dcheck_above (s : Bool) (a : Option Addr) (n cap m : Nat) (x : Int) (w : World) (h : Num w a n m) (hn : 0 < n) (hm : m % 2 = 1) (hx : 1073741824 < x) :
  Calls Try.prog 7 #[.agg #[.bool s,.slice a n cap,.int .i64 x]] w fun e w' => e = .returned (.int .i64 40) ∧ Below w.heap.size w w' := by
 have H := hide h
 have HM := hide hm
 clear h hm
 go_enter Try.func7,Try.ntmps7
 go_wp2_with fail
 refine (check_num a n cap m _ ((unhide H).kept (gr_alloc _ _))).mono ?_
 rintro e w1 ⟨rfl,hb1⟩
 have hS := (Fs.one w _ _).kept hb1
 obtain ⟨⟨z1_0_0,z1_0_1,z1_0_2,-⟩,-⟩ := hS.cells
 go_wp2_with fail
 refine (isNought_no a n cap hn _).mono ?_
 rintro e w2 ⟨rfl,hb2⟩
 replace hS := hS.kept hb2
 clear z1_0_0 z1_0_1 z1_0_2
 obtain ⟨⟨z2_0_0,z2_0_1,z2_0_2,-⟩,-⟩ := hS.cells
 go_wp2_with fail
 refine (bit0_odd a n cap m _ ((unhide H).kept hS.fr) (unhide HM)).mono ?_
 rintro e w3 ⟨rfl,hb3⟩
 replace hS := hS.kept hb3
 clear z2_0_0 z2_0_1 z2_0_2
 obtain ⟨⟨z3_0_0,z3_0_1,z3_0_2,-⟩,-⟩ := hS.cells
 go_wp2_with fail
 refine (beyond_above _ hx _).mono ?_
 rintro e w4 ⟨rfl,hb4⟩
 replace hS := hS.kept hb4
 clear z3_0_0 z3_0_1 z3_0_2
 obtain ⟨⟨z4_0_0,z4_0_1,z4_0_2,-⟩,-⟩ := hS.cells
 go_wp2
 go_ret
 exact ⟨rfl,hS.fr⟩
set_option maxHeartbeats 400000 in
theorem dcheck_ok (s : Bool) (a : Option Addr) (n cap m : Nat) (x : Int) (w : World) (h : Num w a n m) (hn : 0 < n) (hm : m % 2 = 1) (hx : -1073741824 ≤ x ∧ x ≤ 1073741824) :
  Calls Try.prog 7 #[.agg #[.bool s,.slice a n cap,.int .i64 x]] w fun e w' => e = .returned (.int .i64 0) ∧ Below w.heap.size w w' := by
 have H := hide h
 have HM := hide hm
 clear h hm
 go_enter Try.func7,Try.ntmps7
 go_wp2_with fail
 refine (check_num a n cap m _ ((unhide H).kept (gr_alloc _ _))).mono ?_
 rintro e w1 ⟨rfl,hb1⟩
 have hS := (Fs.one w _ _).kept hb1
 obtain ⟨⟨z1_0_0,z1_0_1,z1_0_2,-⟩,-⟩ := hS.cells
 go_wp2_with fail
 refine (isNought_no a n cap hn _).mono ?_
 rintro e w2 ⟨rfl,hb2⟩
 replace hS := hS.kept hb2
 clear z1_0_0 z1_0_1 z1_0_2
 obtain ⟨⟨z2_0_0,z2_0_1,z2_0_2,-⟩,-⟩ := hS.cells
 go_wp2_with fail
 refine (bit0_odd a n cap m _ ((unhide H).kept hS.fr) (unhide HM)).mono ?_
 rintro e w3 ⟨rfl,hb3⟩
 replace hS := hS.kept hb3
 clear z2_0_0 z2_0_1 z2_0_2
 obtain ⟨⟨z3_0_0,z3_0_1,z3_0_2,-⟩,-⟩ := hS.cells
 go_wp2_with fail
 refine (beyond_no _ hx _).mono ?_
 rintro e w4 ⟨rfl,hb4⟩
 replace hS := hS.kept hb4
 clear z3_0_0 z3_0_1 z3_0_2
 obtain ⟨⟨z4_0_0,z4_0_1,z4_0_2,-⟩,-⟩ := hS.cells
 go_wp2
 go_ret
 exact ⟨rfl,hS.fr⟩
set_option maxHeartbeats 400000 in
theorem drcheck_bad (s : Bool) (a : Option Addr) (n cap : Nat) (xs : List Nat) (x : Int) (w : World) (hn : xs.length = n) (hbig : n ≤ 9223372036854775807) (hl : Lim w a xs) (hc : chk xs ≠ 0) :
  Calls Try.prog 8 #[.agg #[.bool s,.slice a n cap,.int .i64 x]] w fun e w' => e = .returned (.int .i64 (chk xs)) ∧ Below w.heap.size w w' := by
 have hcb : (chk xs != 0) = true := by simpa using hc
 have HL := hide hl
 subst hn
 clear hl hc
 go_enter Try.func8,Try.ntmps8
 go_wp2_with fail
 refine (rcheck_any a cap xs _ hbig ((unhide HL).alloc _)).mono ?_
 rintro e w1 ⟨rfl,hb1⟩
 have hS := (Fs.one w _ _).kept hb1
 obtain ⟨⟨z1_0_0,z1_0_1,z1_0_2,-⟩,-⟩ := hS.cells
 go_wp2
 go_ret
 exact ⟨rfl,hS.fr⟩
set_option maxHeartbeats 400000 in
theorem drcheck_nil (s : Bool) (a : Option Addr) (cap : Nat) (x : Int) (w : World) (h : Num w a 0 0) :
  Calls Try.prog 8 #[.agg #[.bool s,.slice a 0 cap,.int .i64 x]] w fun e w' => e = .returned (.int .i64 (if s = true ∨ x ≠ 0 then 40 else 0)) ∧ Below w.heap.size w w' := by
 have H := hide h
 clear h
 go_enter Try.func8,Try.ntmps8
 go_wp2_with fail
 refine (rcheck_num a 0 cap 0 _ ((unhide H).kept (gr_alloc _ _))).mono ?_
 rintro e w1 ⟨rfl,hb1⟩
 have hS := (Fs.one w _ _).kept hb1
 obtain ⟨⟨z1_0_0,z1_0_1,z1_0_2,-⟩,-⟩ := hS.cells
 go_wp2_with fail
 refine (rnone_yes a cap _).mono ?_
 rintro e w2 ⟨rfl,hb2⟩
 replace hS := hS.kept hb2
 clear z1_0_0 z1_0_1 z1_0_2
 obtain ⟨⟨z2_0_0,z2_0_1,z2_0_2,-⟩,-⟩ := hS.cells
 by_cases hs : s = true
 ·subst hs
  go_wp2
  go_ret
  exact ⟨by simp,hS.fr⟩
 ·obtain rfl : s = false := by cases s <;> simp_all
  by_cases hx : x = 0
  ·subst hx
   go_wp2
   go_ret
   exact ⟨by simp,hS.fr⟩
  ·go_wp2
   go_ret
   exact ⟨by simp,hS.fr⟩
set_option maxHeartbeats 400000 in
theorem drcheck_even (s : Bool) (b off n cap m x0 : Nat) (x : Int) (w : World) (h : Num w (some ⟨b,off,none⟩) n m) (hn : 0 < n) (hb : b < w.heap.size) (hc : w.cell? ⟨b,off,none⟩ = some (.int .u32 (x0 : Int))) (hx0 : x0 < 4294967296) (hm : x0 % 2 = 0) :
  Calls Try.prog 8 #[.agg #[.bool s,.slice (some ⟨b,off,none⟩) n cap,.int .i64 x]] w fun e w' => e = .returned (.int .i64 40) ∧ Below w.heap.size w w' := by
 have H := hide h
 clear h
 have hmo : ((x0 : Int)).tmod 2 = 0 := by rw [Int.tmod_eq_emod_of_nonneg (by omega)]; omega
 go_enter Try.func8,Try.ntmps8
 go_wp2_with fail
 refine (rcheck_num (some ⟨b,off,none⟩) n cap m _ ((unhide H).kept (gr_alloc _ _))).mono ?_
 rintro e w1 ⟨rfl,hb1⟩
 have hS := (Fs.one w _ _).kept hb1
 obtain ⟨⟨z1_0_0,z1_0_1,z1_0_2,-⟩,-⟩ := hS.cells
 go_wp2_with fail
 refine (rnone_no (some ⟨b,off,none⟩) n cap hn _).mono ?_
 rintro e w2 ⟨rfl,hb2⟩
 replace hS := hS.kept hb2
 clear z1_0_0 z1_0_1 z1_0_2
 obtain ⟨⟨z2_0_0,z2_0_1,z2_0_2,-⟩,-⟩ := hS.cells
 have hc2 := (hS.fr.cell (p := ⟨b,off,none⟩) hb).trans hc
 go_wp2
 go_ret
 exact ⟨rfl,hS.fr⟩
set_option maxHeartbeats 400000 in
theorem drcheck_below (s : Bool) (b off n cap m x0 : Nat) (x : Int) (w : World) (h : Num w (some ⟨b,off,none⟩) n m) (hn : 0 < n) (hb : b < w.heap.size) (hc : w.cell? ⟨b,off,none⟩ = some (.int .u32 (x0 : Int))) (hx0 : x0 < 4294967296) (hm : x0 % 2 = 1) (hx : x < -1073741824) :
  Calls Try.prog 8 #[.agg #[.bool s,.slice (some ⟨b,off,none⟩) n cap,.int .i64 x]] w fun e w' => e = .returned (.int .i64 40) ∧ Below w.heap.size w w' := by
 have H := hide h
 clear h
 have hmo : ((x0 : Int)).tmod 2 = 1 := by rw [Int.tmod_eq_emod_of_nonneg (by omega)]; omega
 go_enter Try.func8,Try.ntmps8
 go_wp2_with fail
 refine (rcheck_num (some ⟨b,off,none⟩) n cap m _ ((unhide H).kept (gr_alloc _ _))).mono ?_
 rintro e w1 ⟨rfl,hb1⟩
 have hS := (Fs.one w _ _).kept hb1
 obtain ⟨⟨z1_0_0,z1_0_1,z1_0_2,-⟩,-⟩ := hS.cells
 go_wp2_with fail
 refine (rnone_no (some ⟨b,off,none⟩) n cap hn _).mono ?_
 rintro e w2 ⟨rfl,hb2⟩
 replace hS := hS.kept hb2
 clear z1_0_0 z1_0_1 z1_0_2
 obtain ⟨⟨z2_0_0,z2_0_1,z2_0_2,-⟩,-⟩ := hS.cells
 have hc2 := (hS.fr.cell (p := ⟨b,off,none⟩) hb).trans hc
 go_wp2_with fail
 refine (rfar_below _ hx _).mono ?_
 rintro e w3 ⟨rfl,hb3⟩
 replace hS := hS.kept hb3
 clear z2_0_0 z2_0_1 z2_0_2
 obtain ⟨⟨z3_0_0,z3_0_1,z3_0_2,-⟩,-⟩ := hS.cells
 go_wp2
 go_ret
 exact ⟨rfl,hS.fr⟩
set_option maxHeartbeats 400000 in
theorem drcheck_above (s : Bool) (b off n cap m x0 : Nat) (x : Int) (w : World) (h : Num w (some ⟨b,off,none⟩) n m) (hn : 0 < n) (hb : b < w.heap.size) (hc : w.cell? ⟨b,off,none⟩ = some (.int .u32 (x0 : Int))) (hx0 : x0 < 4294967296) (hm : x0 % 2 = 1) (hx : 1073741824 < x) :
  Calls Try.prog 8 #[.agg #[.bool s,.slice (some ⟨b,off,none⟩) n cap,.int .i64 x]] w fun e w' => e = .returned (.int .i64 40) ∧ Below w.heap.size w w' := by
 have H := hide h
 clear h
 have hmo : ((x0 : Int)).tmod 2 = 1 := by rw [Int.tmod_eq_emod_of_nonneg (by omega)]; omega
 go_enter Try.func8,Try.ntmps8
 go_wp2_with fail
 refine (rcheck_num (some ⟨b,off,none⟩) n cap m _ ((unhide H).kept (gr_alloc _ _))).mono ?_
 rintro e w1 ⟨rfl,hb1⟩
 have hS := (Fs.one w _ _).kept hb1
 obtain ⟨⟨z1_0_0,z1_0_1,z1_0_2,-⟩,-⟩ := hS.cells
 go_wp2_with fail
 refine (rnone_no (some ⟨b,off,none⟩) n cap hn _).mono ?_
 rintro e w2 ⟨rfl,hb2⟩
 replace hS := hS.kept hb2
 clear z1_0_0 z1_0_1 z1_0_2
 obtain ⟨⟨z2_0_0,z2_0_1,z2_0_2,-⟩,-⟩ := hS.cells
 have hc2 := (hS.fr.cell (p := ⟨b,off,none⟩) hb).trans hc
 go_wp2_with fail
 refine (rfar_above _ hx _).mono ?_
 rintro e w3 ⟨rfl,hb3⟩
 replace hS := hS.kept hb3
 clear z2_0_0 z2_0_1 z2_0_2
 obtain ⟨⟨z3_0_0,z3_0_1,z3_0_2,-⟩,-⟩ := hS.cells
 go_wp2
 go_ret
 exact ⟨rfl,hS.fr⟩
set_option maxHeartbeats 400000 in
theorem drcheck_ok (s : Bool) (b off n cap m x0 : Nat) (x : Int) (w : World) (h : Num w (some ⟨b,off,none⟩) n m) (hn : 0 < n) (hb : b < w.heap.size) (hc : w.cell? ⟨b,off,none⟩ = some (.int .u32 (x0 : Int))) (hx0 : x0 < 4294967296) (hm : x0 % 2 = 1) (hx : -1073741824 ≤ x ∧ x ≤ 1073741824) :
  Calls Try.prog 8 #[.agg #[.bool s,.slice (some ⟨b,off,none⟩) n cap,.int .i64 x]] w fun e w' => e = .returned (.int .i64 0) ∧ Below w.heap.size w w' := by
 have H := hide h
 clear h
 have hmo : ((x0 : Int)).tmod 2 = 1 := by rw [Int.tmod_eq_emod_of_nonneg (by omega)]; omega
 go_enter Try.func8,Try.ntmps8
 go_wp2_with fail
 refine (rcheck_num (some ⟨b,off,none⟩) n cap m _ ((unhide H).kept (gr_alloc _ _))).mono ?_
 rintro e w1 ⟨rfl,hb1⟩
 have hS := (Fs.one w _ _).kept hb1
 obtain ⟨⟨z1_0_0,z1_0_1,z1_0_2,-⟩,-⟩ := hS.cells
 go_wp2_with fail
 refine (rnone_no (some ⟨b,off,none⟩) n cap hn _).mono ?_
 rintro e w2 ⟨rfl,hb2⟩
 replace hS := hS.kept hb2
 clear z1_0_0 z1_0_1 z1_0_2
 obtain ⟨⟨z2_0_0,z2_0_1,z2_0_2,-⟩,-⟩ := hS.cells
 have hc2 := (hS.fr.cell (p := ⟨b,off,none⟩) hb).trans hc
 go_wp2_with fail
 refine (rfar_no _ hx _).mono ?_
 rintro e w3 ⟨rfl,hb3⟩
 replace hS := hS.kept hb3
 clear z2_0_0 z2_0_1 z2_0_2
 obtain ⟨⟨z3_0_0,z3_0_1,z3_0_2,-⟩,-⟩ := hS.cells
 go_wp2
 go_ret
 exact ⟨rfl,hS.fr⟩
theorem num_first {w : World} {b off n m : Nat} (h : Num w (some ⟨b,off,none⟩) n m) (hn : 0 < n) : ∃ x0 : Nat,b < w.heap.size ∧ w.cell? ⟨b,off,none⟩ = some (.int .u32 (x0 : Int)) ∧ x0 < 4294967296 ∧ m % 2 = x0 % 2 := by
 obtain ⟨xs,hl,hL,hw,hN,hv,_⟩ := h
 rcases hL.parts with rfl | ⟨hp,b',off',e,hlt,hc⟩
 ·simp at hl; omega
 ·cases e
  cases xs with
  | nil => simp at hp
  | cons x r =>
   refine ⟨x,hlt,?_,?_,?_⟩
   ·have := hc 0 (by simp)
    simpa using this
   ·exact hw x (List.mem_cons_self ..)
   ·rw [← hv]; exact low_even
theorem dck_num {w : World} {a : Option Addr} {n : Nat} {xs : List Nat} (hn : xs.length = n) (hl : Lim w a xs) (hw : Pl.Wf xs) (hc : chk xs = 0) : Num w a n (Pl.val xs) := by
 have := chk_zero hc
 exact ⟨xs,hn,hl,hw,this.2,rfl,by omega⟩
theorem dcheck_any (s : Bool) (a : Option Addr) (n cap : Nat) (xs : List Nat) (x : Int) (w : World) (hn : xs.length = n) (hbig : n ≤ 9223372036854775807) (hl : Lim w a xs) (hw : Pl.Wf xs) :
  Calls Try.prog 7 #[.agg #[.bool s,.slice a n cap,.int .i64 x]] w fun e w' => e = .returned (.int .i64 (dck s xs x)) ∧ Below w.heap.size w w' := by
 unfold dck
 by_cases hc : chk xs = 0
 ·rw [if_neg (by simpa using hc)]
  have hN := dck_num hn hl hw hc
  by_cases h0 : n = 0
  ·subst h0
   rw [if_pos hn]
   have h1 := hN.zero.1 rfl
   rw [h1] at hN
   exact dcheck_nil s a cap x w hN
  ·rw [if_neg (by omega)]
   rcases Nat.mod_two_eq_zero_or_one (Pl.val xs) with he | ho
   ·rw [if_pos (Or.inl he)]
    exact dcheck_even s a n cap _ x w hN (by omega) he
   ·by_cases hf : Far x
    ·rw [if_pos (Or.inr hf)]
     rcases hf with hf | hf
     ·exact dcheck_below s a n cap _ x w hN (by omega) ho hf
     ·exact dcheck_above s a n cap _ x w hN (by omega) ho hf
    ·rw [if_neg (by rintro (h | h); omega; exact hf h)]
     unfold Far at hf
     exact dcheck_ok s a n cap _ x w hN (by omega) ho (by omega)
 ·rw [if_pos (by simpa using hc)]
  exact dcheck_bad s a n cap xs x w hn hbig hl hc
theorem drcheck_any (s : Bool) (a : Option Addr) (n cap : Nat) (xs : List Nat) (x : Int) (w : World) (hn : xs.length = n) (hbig : n ≤ 9223372036854775807) (hl : Lim w a xs) (hw : Pl.Wf xs) :
  Calls Try.prog 8 #[.agg #[.bool s,.slice a n cap,.int .i64 x]] w fun e w' => e = .returned (.int .i64 (dck s xs x)) ∧ Below w.heap.size w w' := by
 unfold dck
 by_cases hc : chk xs = 0
 ·rw [if_neg (by simpa using hc)]
  have hN := dck_num hn hl hw hc
  by_cases h0 : n = 0
  ·subst h0
   rw [if_pos hn]
   have h1 := hN.zero.1 rfl
   rw [h1] at hN
   exact drcheck_nil s a cap x w hN
  ·rw [if_neg (by omega)]
   rcases hl.parts with rfl | ⟨hp,b,off,rfl,hlt,hcell⟩
   ·simp at hn; omega
   obtain ⟨x0,hb,hx0,hlt0,hmod⟩ := num_first hN (by omega)
   rcases Nat.mod_two_eq_zero_or_one (Pl.val xs) with he | ho
   ·rw [if_pos (Or.inl he)]
    exact drcheck_even s b off n cap _ x0 x w hN (by omega) hb hx0 hlt0 (by omega)
   ·by_cases hf : Far x
    ·rw [if_pos (Or.inr hf)]
     rcases hf with hf | hf
     ·exact drcheck_below s b off n cap _ x0 x w hN (by omega) hb hx0 hlt0 (by omega) hf
     ·exact drcheck_above s b off n cap _ x0 x w hN (by omega) hb hx0 hlt0 (by omega) hf
    ·rw [if_neg (by rintro (h | h); omega; exact hf h)]
     unfold Far at hf
     exact drcheck_ok s b off n cap _ x0 x w hN (by omega) hb hx0 hlt0 (by omega) (by omega)
 ·rw [if_pos (by simpa using hc)]
  exact drcheck_bad s a n cap xs x w hn hbig hl hc
end Go.Proofs.Ytjemjhaphannaaa
namespace Go.Proofs.Ytjemjhaphannaaa
open Go.RowKit
theorem Own.setS {w : World} {base : Nat} {v : Value} {xs : List Nat} (h : Own w base v xs) (p : Addr) (u : Value) (hp : p.block < base) : Own (w.setCell p u) base v xs := h.set hp u
theorem st_lt (base g n c : Nat) (xs : List Nat) : St base (fun W => Lt W base g n c xs) := ⟨fun _ _ hb h => h.kept hb,fun _ p u hp h => ⟨h.own.setS p u hp,h.len⟩⟩
set_option maxHeartbeats 400000 in
theorem own_any (s : Bool) (a : Option Addr) (n cap : Nat) (xs : List Nat) (x : Int) (w : World) (hn : xs.length = n) (hl : Lim w a xs) (hb : n ≤ 35184372087808) :
  Calls Try.prog 5 #[.agg #[.bool s,.slice a n cap,.int .i64 x]] w fun e w' => (∃ g c,e = .returned (.agg #[.bool s,.slice (some ⟨g,0,none⟩) n c,.int .i64 x]) ∧ Lt w' w.heap.size g n c xs) ∧ Below w.heap.size w w' := by
 have HL := hide hl
 have HN := hide hn
 clear hl hn
 go_enter Try.func5,Try.ntmps5
 go_wp2_with fail
 have hS : Fs w ((w.alloc (.cells #[.bool s,.slice a n cap,.int .i64 x] 28)).alloc (.cells #[.bool false,.slice none 0 0,.int .i64 0] 28)) [⟨w.heap.size,#[.bool s,.slice a n cap,.int .i64 x],28⟩,⟨w.heap.size + 1,#[.bool false,.slice none 0 0,.int .i64 0],28⟩] := Fs.two w _ _ _ _
 have hs9 : ∀ x9 : Nat × (Pk → World → Prop),x9 ∈ ([(4,fun q W => Lt W ((w.alloc (.cells #[.bool s,.slice a n cap,.int .i64 x] 28)).alloc (.cells #[.bool false,.slice none 0 0,.int .i64 0] 28)).heap.size q.N n q.C xs)] : List (Nat × (Pk → World → Prop))) → ∀ q9 : Pk,St ((w.alloc (.cells #[.bool s,.slice a n cap,.int .i64 x] 28)).alloc (.cells #[.bool false,.slice none 0 0,.int .i64 0] 28)).heap.size (x9.2 q9) := by
  intro x hx q
  simp only [List.mem_cons,List.not_mem_nil,or_false] at hx
  rcases hx with rfl
  ·exact st_lt _ _ _ _ _
 refine wp_region_any (by kernel_rfl) ?_
 refine wpAny_pick (fun p9 => [some (3,.pointer (some ⟨w.heap.size,0,none⟩)),some (4,.bool s),some (5,.pointer (some ⟨w.heap.size,1,none⟩)),some (6,.agg #[.slice a n cap]),some (7,.agg #[.slice (some ⟨(p9 4).N,0,none⟩) n (p9 4).C]),some (8,.pointer (some ⟨w.heap.size,2,none⟩)),some (9,.int .i64 x),some (10,.agg #[.bool s,.slice (some ⟨(p9 4).N,0,none⟩) n (p9 4).C,.int .i64 x]),none])
  (fun p9 l9 W9 => Pm w ((w.alloc (.cells #[.bool s,.slice a n cap,.int .i64 x] 28)).alloc (.cells #[.bool false,.slice none 0 0,.int .i64 0] 28)).heap.size [(4,fun q W => Lt W ((w.alloc (.cells #[.bool s,.slice a n cap,.int .i64 x] 28)).alloc (.cells #[.bool false,.slice none 0 0,.int .i64 0] 28)).heap.size q.N n q.C xs)] p9 l9 W9 (pickBs l9 [(8,[⟨w.heap.size,#[.bool s,.slice a n cap,.int .i64 x],28⟩,⟨w.heap.size + 1,#[.bool s,.slice (some ⟨(p9 4).N,0,none⟩) n (p9 4).C,.int .i64 x],28⟩])] [⟨w.heap.size,#[.bool s,.slice a n cap,.int .i64 x],28⟩,⟨w.heap.size + 1,#[.bool false,.slice none 0 0,.int .i64 0],28⟩])) _ _ (fun _ => rfl) (by kernel_rfl) (fun _ => rfl) (fun _ => rfl) ?_ ?_ (fun _ => ⟨none,0,0⟩) (Pm.start hS _ _ _)
 ·intro p9 l9 t9 W9 i9 hD hi9 hl9 hM
  obtain ⟨o9,ho9,hd9⟩ := (mem_ready.1 hi9).2
  have hin9 : i9 < 9 := by
   by_cases h : i9 < 9
   ·exact h
   ·rw [Array.getElem?_eq_none (by rw [hD.len]; simp; omega)] at hl9; cases hl9
  have hcase : i9 = 0 ∨ i9 = 1 ∨ i9 = 2 ∨ i9 = 3 ∨ i9 = 4 ∨ i9 = 5 ∨ i9 = 6 ∨ i9 = 7 ∨ i9 = 8 := by omega
  clear hin9
  rcases hcase with rfl | rfl | rfl | rfl | rfl | rfl | rfl | rfl | rfl
  ·cases ho9
   have r1 := hD.old 1 _ rfl rfl
   clear hD hd9 hi9
   refine wpOp_step rfl (fun K hK => ?_)
   go_simp
   exact hK _ _ ⟨p9,fun _ _ => rfl,rfl,(Pm.keepM rfl (hM.val rfl))⟩
  ·cases ho9
   have r3 := hD.on 0 3 _ rfl (getD_true (hd9 ⟨0,.data⟩ (by simp) rfl))
   have hM0 : Fs w W9 [⟨w.heap.size,#[.bool s,.slice a n cap,.int .i64 x],28⟩,⟨w.heap.size + 1,#[.bool false,.slice none 0 0,.int .i64 0],28⟩] := by
    have hM1 := hM.st
    simp only [pickBs] at hM1
    rw [if_neg (hD.waits 1 8 _ ⟨1,.phase⟩ hl9 rfl (by simp) rfl rfl)] at hM1
    exact hM1
   have c9_0 := hM0.cellAt (b := w.heap.size) (cs := #[.bool s,.slice a n cap,.int .i64 x]) (t := 28) (by simp) 0 _ rfl
   clear hM0
   clear hD hd9 hi9
   refine wpOp_step rfl (fun K hK => ?_)
   go_simp
   exact hK _ _ ⟨p9,fun _ _ => rfl,rfl,(Pm.keepM rfl (hM.val rfl))⟩
  ·cases ho9
   have r1 := hD.old 1 _ rfl rfl
   clear hD hd9 hi9
   refine wpOp_step rfl (fun K hK => ?_)
   go_simp
   exact hK _ _ ⟨p9,fun _ _ => rfl,rfl,(Pm.keepM rfl (hM.val rfl))⟩
  ·cases ho9
   have r5 := hD.on 2 5 _ rfl (getD_true (hd9 ⟨2,.data⟩ (by simp) rfl))
   have hM0 : Fs w W9 [⟨w.heap.size,#[.bool s,.slice a n cap,.int .i64 x],28⟩,⟨w.heap.size + 1,#[.bool false,.slice none 0 0,.int .i64 0],28⟩] := by
    have hM1 := hM.st
    simp only [pickBs] at hM1
    rw [if_neg (hD.waits 3 8 _ ⟨3,.phase⟩ hl9 rfl (by simp) rfl rfl)] at hM1
    exact hM1
   have c9_0 := hM0.cellAt (b := w.heap.size) (cs := #[.bool s,.slice a n cap,.int .i64 x]) (t := 28) (by simp) 1 _ rfl
   clear hM0
   clear hD hd9 hi9
   refine wpOp_step rfl (fun K hK => ?_)
   go_simp
   exact hK _ _ ⟨p9,fun _ _ => rfl,rfl,(Pm.keepM rfl (hM.val rfl))⟩
  ·cases ho9
   have r6 := hD.on 3 6 _ rfl (getD_true (hd9 ⟨3,.data⟩ (by simp) rfl))
   have hM0 : Fs w W9 [⟨w.heap.size,#[.bool s,.slice a n cap,.int .i64 x],28⟩,⟨w.heap.size + 1,#[.bool false,.slice none 0 0,.int .i64 0],28⟩] := by
    have hM1 := hM.st
    simp only [pickBs] at hM1
    rw [if_neg (hD.waits 4 8 _ ⟨4,.chain⟩ hl9 rfl (by simp) rfl rfl)] at hM1
    exact hM1
   have HD := hide hD
   have hn8 := hD.waits 4 8 _ ⟨4,.chain⟩ hl9 rfl (by simp) rfl rfl
   clear hD hd9 hi9
   refine wpOp_step rfl (fun K hK => ?_)
   go_simp
   go_wp2_with fail
   refine (lent_any a n cap xs _ (unhide HN) ((unhide HL).below hM.st.fr) hb).mono ?_
   rintro en w9 ⟨⟨g9,c9,rfl,h9⟩,hb9⟩
   refine hK _ _ ⟨p9.set 4 ⟨none,g9,c9⟩,?_,rfl,(Pm.keepM rfl (((hM.kept hs9 hb9).pick ⟨none,g9,c9⟩ ?_).into (by simp only [pickBs]; rw [if_neg hn8,if_neg hn8])))⟩
   ·refine (unhide HD).agree hl9 ?_
    intro k9 hk9 hd9
    clear HD hM hK
    match k9 with
    | 0 => rfl
    | 1 => rfl
    | 2 => rfl
    | 3 => rfl
    | 4 => exact absurd rfl hk9
    | 5 => rfl
    | 6 => rfl
    | 7 => exact nomatch hd9.symm.trans (show downB _ _ _ _ = true by kernel_rfl)
    | 8 => exact nomatch hd9.symm.trans (show downB _ _ _ _ = true by kernel_rfl)
    | k9 + 9 => rfl
   ·intro x hx he; simp only [List.mem_cons,List.not_mem_nil,or_false] at hx; subst hx; exact h9.mono hM.bw
  ·cases ho9
   have r1 := hD.old 1 _ rfl rfl
   clear hD hd9 hi9
   refine wpOp_step rfl (fun K hK => ?_)
   go_simp
   exact hK _ _ ⟨p9,fun _ _ => rfl,rfl,(Pm.keepM rfl (hM.val rfl))⟩
  ·cases ho9
   have r8 := hD.on 5 8 _ rfl (getD_true (hd9 ⟨5,.data⟩ (by simp) rfl))
   have hM0 : Fs w W9 [⟨w.heap.size,#[.bool s,.slice a n cap,.int .i64 x],28⟩,⟨w.heap.size + 1,#[.bool false,.slice none 0 0,.int .i64 0],28⟩] := by
    have hM1 := hM.st
    simp only [pickBs] at hM1
    rw [if_neg (hD.waits 6 8 _ ⟨6,.phase⟩ hl9 rfl (by simp) rfl rfl)] at hM1
    exact hM1
   have c9_0 := hM0.cellAt (b := w.heap.size) (cs := #[.bool s,.slice a n cap,.int .i64 x]) (t := 28) (by simp) 2 _ rfl
   clear hM0
   clear hD hd9 hi9
   refine wpOp_step rfl (fun K hK => ?_)
   go_simp
   exact hK _ _ ⟨p9,fun _ _ => rfl,rfl,(Pm.keepM rfl (hM.val rfl))⟩
  ·cases ho9
   have r4 := hD.on 1 4 _ rfl (getD_true (hd9 ⟨1,.data⟩ (by simp) rfl))
   have r7 := hD.on 4 7 _ rfl (getD_true (hd9 ⟨4,.data⟩ (by simp) rfl))
   have r9 := hD.on 6 9 _ rfl (getD_true (hd9 ⟨6,.data⟩ (by simp) rfl))
   clear hD hd9 hi9
   refine wpOp_step rfl (fun K hK => ?_)
   go_simp
   exact hK _ _ ⟨p9,fun _ _ => rfl,rfl,(Pm.keepM rfl (hM.val rfl))⟩
  ·cases ho9
   have r2 := hD.old 2 _ rfl rfl
   have r10 := hD.on 7 10 _ rfl (getD_true (hd9 ⟨7,.data⟩ (by simp) rfl))
   have hM0 : Fs w W9 [⟨w.heap.size,#[.bool s,.slice a n cap,.int .i64 x],28⟩,⟨w.heap.size + 1,#[.bool false,.slice none 0 0,.int .i64 0],28⟩] := by
    have hM1 := hM.st
    simp only [pickBs] at hM1
    rw [if_neg (by rw [hl9]; simp)] at hM1
    exact hM1
   have c9_0 := hM0.cellAt (b := w.heap.size + 1) (cs := #[.bool false,.slice none 0 0,.int .i64 0]) (t := 28) (by simp) 0 _ rfl
   have z9_0 := hM0.frozen (b := w.heap.size + 1) (cs := #[.bool false,.slice none 0 0,.int .i64 0]) (t := 28) (by simp) 0
   have c9_1 := hM0.cellAt (b := w.heap.size + 1) (cs := #[.bool false,.slice none 0 0,.int .i64 0]) (t := 28) (by simp) 1 _ rfl
   have z9_1 := hM0.frozen (b := w.heap.size + 1) (cs := #[.bool false,.slice none 0 0,.int .i64 0]) (t := 28) (by simp) 1
   have c9_2 := hM0.cellAt (b := w.heap.size + 1) (cs := #[.bool false,.slice none 0 0,.int .i64 0]) (t := 28) (by simp) 2 _ rfl
   have z9_2 := hM0.frozen (b := w.heap.size + 1) (cs := #[.bool false,.slice none 0 0,.int .i64 0]) (t := 28) (by simp) 2
   clear hD hd9 hi9
   refine wpOp_step rfl (fun K hK => ?_)
   go_simp
   exact hK _ _ ⟨p9,fun _ _ => rfl,rfl,Pm.putM hl9 ((((hM.val rfl).put hs9 _ _ (block_lt (hS.bx _ (List.mem_of_getElem? (i := 1) rfl))) (hM0.put (b := w.heap.size + 1) (cs := #[.bool false,.slice none 0 0,.int .i64 0]) (t := 28) (by simp) (by simp) 0 (.bool s) [⟨w.heap.size,#[.bool s,.slice a n cap,.int .i64 x],28⟩,⟨w.heap.size + 1,#[.bool s,.slice none 0 0,.int .i64 0],28⟩] (by simp))).put hs9 _ _ (block_lt (hS.bx _ (List.mem_of_getElem? (i := 1) rfl))) ((hM0.put (b := w.heap.size + 1) (cs := #[.bool false,.slice none 0 0,.int .i64 0]) (t := 28) (by simp) (by simp) 0 (.bool s) [⟨w.heap.size,#[.bool s,.slice a n cap,.int .i64 x],28⟩,⟨w.heap.size + 1,#[.bool s,.slice none 0 0,.int .i64 0],28⟩] (by simp)).put (b := w.heap.size + 1) (cs := #[.bool s,.slice none 0 0,.int .i64 0]) (t := 28) (by simp) (by simp) 1 (.slice (some ⟨(p9 4).N,0,none⟩) n (p9 4).C) [⟨w.heap.size,#[.bool s,.slice a n cap,.int .i64 x],28⟩,⟨w.heap.size + 1,#[.bool s,.slice (some ⟨(p9 4).N,0,none⟩) n (p9 4).C,.int .i64 0],28⟩] (by simp))).put hs9 _ _ (block_lt (hS.bx _ (List.mem_of_getElem? (i := 1) rfl))) (((hM0.put (b := w.heap.size + 1) (cs := #[.bool false,.slice none 0 0,.int .i64 0]) (t := 28) (by simp) (by simp) 0 (.bool s) [⟨w.heap.size,#[.bool s,.slice a n cap,.int .i64 x],28⟩,⟨w.heap.size + 1,#[.bool s,.slice none 0 0,.int .i64 0],28⟩] (by simp)).put (b := w.heap.size + 1) (cs := #[.bool s,.slice none 0 0,.int .i64 0]) (t := 28) (by simp) (by simp) 1 (.slice (some ⟨(p9 4).N,0,none⟩) n (p9 4).C) [⟨w.heap.size,#[.bool s,.slice a n cap,.int .i64 x],28⟩,⟨w.heap.size + 1,#[.bool s,.slice (some ⟨(p9 4).N,0,none⟩) n (p9 4).C,.int .i64 0],28⟩] (by simp)).put (b := w.heap.size + 1) (cs := #[.bool s,.slice (some ⟨(p9 4).N,0,none⟩) n (p9 4).C,.int .i64 0]) (t := 28) (by simp) (by simp) 2 (.int .i64 x) [⟨w.heap.size,#[.bool s,.slice a n cap,.int .i64 x],28⟩,⟨w.heap.size + 1,#[.bool s,.slice (some ⟨(p9 4).N,0,none⟩) n (p9 4).C,.int .i64 x],28⟩] (by simp)))⟩
 ·intro p9 l9 W9 hl9 hM
  have fr1_4 := hM.fx _ (List.mem_of_getElem? (i := 0) rfl) (hl9 4 (by decide))
  replace hM := hM.st
  simp only [pickBs] at hM
  rw [if_pos (hl9 8 (by decide))] at hM
  clear hl9 hs9
  generalize p9 4 = q4 at *
  obtain ⟨Ar1_4,Nr1_4,Cr1_4⟩ := q4
  simp only [] at fr1_4
  clear hS
  have hS := hM
  clear hM
  simp only [Puts.lay,List.setIfInBounds_toArray,List.set_cons_zero,List.set_cons_succ]
  obtain ⟨⟨z1_0_0,z1_0_1,z1_0_2,-⟩,⟨z1_1_0,z1_1_1,z1_1_2,-⟩,-⟩ := hS.cells
  go_wp2
  exact bodyPost_ret (v := .agg #[.bool s,.slice (some ⟨Nr1_4,0,none⟩) n Cr1_4,.int .i64 x]) (by simp [results,Try.results5,go_sem,z1_1_0,z1_1_1,z1_1_2]) rfl ⟨⟨_,_,rfl,fr1_4.mono (by simp; omega)⟩,hS.fr⟩
end Go.Proofs.Ytjemjhaphannaaa
