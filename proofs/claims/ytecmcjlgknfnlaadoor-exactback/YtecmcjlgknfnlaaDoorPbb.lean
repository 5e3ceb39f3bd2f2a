/- Of what ExactBackRow stands on: ExOf ExRat. -/
import Derived.Test.YtecmcjlgknfnlaaDoorPau
import Derived.Test.YtecmcjlgknfnlaaDoorPay
import Derived.Test.YtecmcjlgknfnlaaDoorPba
namespace Go.Proofs.YtecmcjlgknfnlaaDoor
open Go.RowKit
theorem rno_yes (a : Option Addr) (cap : Nat) (w : World) : Calls Tryd.prog 106 #[.agg #[.slice a 0 cap]] w fun en w' => en = .returned (.bool true) ∧ Below w.heap.size w w' := nought_any a 0 cap w
theorem rno_no (a : Option Addr) (n cap : Nat) (w : World) (hn : 0 < n) : Calls Tryd.prog 106 #[.agg #[.slice a n cap]] w fun en w' => en = .returned (.bool false) ∧ Below w.heap.size w w' := by
 have := nought_any a n cap w
 rw [decide_eq_false (by omega)] at this
 exact this
theorem one_yes (a : Option Addr) (n cap m : Nat) (w : World) (h : Num w a n m) (hm : m = 1) : Calls Tryd.prog 108 #[.agg #[.slice a n cap]] w fun en w' => en = .returned (.bool true) ∧ Below w.heap.size w w' := by
 have := isOne_any a n cap m w h
 rw [decide_eq_true hm] at this
 exact this
theorem one_no (a : Option Addr) (n cap m : Nat) (w : World) (h : Num w a n m) (hm : m ≠ 1) : Calls Tryd.prog 108 #[.agg #[.slice a n cap]] w fun en w' => en = .returned (.bool false) ∧ Below w.heap.size w w' := by
 have := isOne_any a n cap m w h
 rw [decide_eq_false hm] at this
 exact this
set_option maxHeartbeats 400000 in
theorem gcd_bad (a : Option Addr) (n cap : Nat) (xs : List Nat) (a' : Option Addr) (n' cap' : Nat) (ys : List Nat) (w : World) (hn : xs.length = n) (hn' : ys.length = n') (hbx : n ≤ 9223372036854775807) (hby : n' ≤ 9223372036854775807) (hl : Lim w a xs) (hl' : Lim w a' ys) (hc : chk2 xs ys ≠ 0) :
  Calls Tryd.prog 107 #[.agg #[.slice a n cap],.agg #[.slice a' n' cap']] w fun e w' => e = .returned (.tuple #[.agg #[.slice none 0 0],.int .i64 (chk2 xs ys)]) ∧ Below w.heap.size w w' := by
 have HK := hide (fun (o1 o2 o3 : Obj) => checkBoth_any a a' cap cap' xs ys (((w.alloc o1).alloc o2).alloc o3) (by omega) (by omega) (((hl.alloc _).alloc _).alloc _) (((hl'.alloc _).alloc _).alloc _))
 rw [hn,hn'] at HK
 have hne : (chk2 xs ys != 0) = true := by simp [hc]
 clear hn hn' hl hl' hc hbx hby
 go_enter Tryd.func107,Tryd.ntmps107
 go_wp2_with fail
 refine (unhide HK _ _ _).mono ?_
 rintro e w1 ⟨rfl,hb1⟩
 have hS := (Fs.three w _ _ _ _ _ _).kept hb1
 obtain ⟨⟨z1_0_0,-⟩,⟨z1_1_0,-⟩,⟨z1_2_0,-⟩,-⟩ := hS.cells
 have fz0 := hS.frozen (b := w.heap.size + 2) (cs := #[.slice none 0 0]) (t := 24) (by simp) 0
 go_wp2
 exact bodyPost_ret (v := .tuple #[.agg #[.slice none 0 0],.int .i64 (chk2 xs ys)]) (by simp [results,Tryd.results107,go_sem,z1_2_0]) rfl ⟨rfl,hS.fr.setCell (by simp <;> omega) _⟩
set_option maxHeartbeats 400000 in
theorem rk_den (s : Bool) (a : Option Addr) (n cap : Nat) (a' : Option Addr) (cap' : Nat) (w : World)  :
  Calls Tryd.prog 62 #[.agg #[.bool s,.slice a n cap,.slice a' 0 cap']] w fun e w' => e = .returned (.int .i64 20) ∧ Below w.heap.size w w' := by
 go_enter Tryd.func62,Tryd.ntmps62
 go_wp2_with fail
 refine (rno_yes a' cap' _).mono ?_
 rintro e w1 ⟨rfl,hb1⟩
 have hS := (Fs.one w _ _).kept hb1
 obtain ⟨⟨z1_0_0,z1_0_1,z1_0_2,-⟩,-⟩ := hS.cells
 go_wp2
 go_ret
 exact ⟨rfl,hS.fr⟩
set_option maxHeartbeats 400000 in
theorem rk_neg (a : Option Addr) (cap : Nat) (a' : Option Addr) (n' cap' : Nat) (hn' : 0 < n') (w : World)  :
  Calls Tryd.prog 62 #[.agg #[.bool true,.slice a 0 cap,.slice a' n' cap']] w fun e w' => e = .returned (.int .i64 20) ∧ Below w.heap.size w w' := by
 go_enter Tryd.func62,Tryd.ntmps62
 go_wp2_with fail
 refine (rno_no a' n' cap' _ hn').mono ?_
 rintro e w1 ⟨rfl,hb1⟩
 have hS := (Fs.one w _ _).kept hb1
 obtain ⟨⟨z1_0_0,z1_0_1,z1_0_2,-⟩,-⟩ := hS.cells
 go_wp2_with fail
 refine (rno_yes a cap _).mono ?_
 rintro e w2 ⟨rfl,hb2⟩
 replace hS := hS.kept hb2
 clear z1_0_0 z1_0_1 z1_0_2
 obtain ⟨⟨z2_0_0,z2_0_1,z2_0_2,-⟩,-⟩ := hS.cells
 go_wp2
 go_ret
 exact ⟨rfl,hS.fr⟩
set_option maxHeartbeats 400000 in
theorem rk_err_f (a : Option Addr) (n cap : Nat) (a' : Option Addr) (n' cap' : Nat) (c : Int) (w : World) (hn' : 0 < n')  (hc : (c != 0) = true) (HG : Hid (∀ W : World,Below w.heap.size w W → Calls Tryd.prog 107 #[.agg #[.slice a n cap],.agg #[.slice a' n' cap']] W fun e w' => e = .returned (.tuple #[.agg #[.slice none 0 0],.int .i64 c]) ∧ Below W.heap.size W w')) :
  Calls Tryd.prog 62 #[.agg #[.bool false,.slice a n cap,.slice a' n' cap']] w fun e w' => e = .returned (.int .i64 20) ∧ Below w.heap.size w w' := by
 go_enter Tryd.func62,Tryd.ntmps62
 go_wp2_with fail
 refine (rno_no a' n' cap' _ hn').mono ?_
 rintro e w1 ⟨rfl,hb1⟩
 have hS := (Fs.one w _ _).kept hb1
 obtain ⟨⟨z1_0_0,z1_0_1,z1_0_2,-⟩,-⟩ := hS.cells
 go_wp2_with fail
 refine (unhide HG _ hS.fr).mono ?_
 rintro e w2 ⟨rfl,hb2⟩
 replace hS := hS.kept hb2
 clear z1_0_0 z1_0_1 z1_0_2
 obtain ⟨⟨z2_0_0,z2_0_1,z2_0_2,-⟩,-⟩ := hS.cells
 go_wp2
 go_ret
 exact ⟨rfl,hS.fr.alloc hS.fr.size _⟩
set_option maxHeartbeats 400000 in
theorem rk_big_f (a : Option Addr) (n cap m : Nat) (a' : Option Addr) (n' cap' m' : Nat) (w : World) (hn' : 0 < n')  (h : Num w a n m) (h' : Num w a' n' m') (hg : Nat.gcd m m' ≠ 1) :
  Calls Tryd.prog 62 #[.agg #[.bool false,.slice a n cap,.slice a' n' cap']] w fun e w' => e = .returned (.int .i64 20) ∧ Below w.heap.size w w' := by
 have H := hide h
 have H' := hide h'
 have HG := hide hg
 clear h h' hg
 go_enter Tryd.func62,Tryd.ntmps62
 go_wp2_with fail
 refine (rno_no a' n' cap' _ hn').mono ?_
 rintro e w1 ⟨rfl,hb1⟩
 have hS := (Fs.one w _ _).kept hb1
 obtain ⟨⟨z1_0_0,z1_0_1,z1_0_2,-⟩,-⟩ := hS.cells
 go_wp2_with fail
 refine (gcd_any a a' n n' cap cap' m m' _ ((unhide H).kept hS.fr) ((unhide H').kept hS.fr)).mono ?_
 rintro e w2 ⟨⟨A1,N1,C1,rfl,f1⟩,hb2⟩
 replace hS := hS.kept hb2
 clear z1_0_0 z1_0_1 z1_0_2
 obtain ⟨⟨z2_0_0,z2_0_1,z2_0_2,-⟩,-⟩ := hS.cells
 have G1 := hide f1.num
 clear f1
 have hltw2_0 : w.heap.size < w2.heap.size := block_lt (hS.bx ⟨w.heap.size,#[.bool false,.slice a n cap,.slice a' n' cap'],50⟩ (by simp))
 replace hS := hS.alloc #[.slice A1 N1 C1] 24
 replace G1 := hide ((unhide G1).alloc (.cells #[.slice A1 N1 C1] 24))
 go_wp2_with fail
 refine (one_no A1 N1 C1 _ _ (unhide G1) (unhide HG)).mono ?_
 rintro e w3 ⟨rfl,hb3⟩
 replace hS := hS.kept hb3
 clear z2_0_0 z2_0_1 z2_0_2
 obtain ⟨⟨z3_0_0,-⟩,⟨z3_1_0,z3_1_1,z3_1_2,-⟩,-⟩ := hS.cells
 go_wp2
 go_ret
 exact ⟨rfl,hS.fr⟩
set_option maxHeartbeats 400000 in
theorem rk_ok_f (a : Option Addr) (n cap m : Nat) (a' : Option Addr) (n' cap' m' : Nat) (w : World) (hn' : 0 < n')  (h : Num w a n m) (h' : Num w a' n' m') (hg : Nat.gcd m m' = 1) :
  Calls Tryd.prog 62 #[.agg #[.bool false,.slice a n cap,.slice a' n' cap']] w fun e w' => e = .returned (.int .i64 0) ∧ Below w.heap.size w w' := by
 have H := hide h
 have H' := hide h'
 have HG := hide hg
 clear h h' hg
 go_enter Tryd.func62,Tryd.ntmps62
 go_wp2_with fail
 refine (rno_no a' n' cap' _ hn').mono ?_
 rintro e w1 ⟨rfl,hb1⟩
 have hS := (Fs.one w _ _).kept hb1
 obtain ⟨⟨z1_0_0,z1_0_1,z1_0_2,-⟩,-⟩ := hS.cells
 go_wp2_with fail
 refine (gcd_any a a' n n' cap cap' m m' _ ((unhide H).kept hS.fr) ((unhide H').kept hS.fr)).mono ?_
 rintro e w2 ⟨⟨A1,N1,C1,rfl,f1⟩,hb2⟩
 replace hS := hS.kept hb2
 clear z1_0_0 z1_0_1 z1_0_2
 obtain ⟨⟨z2_0_0,z2_0_1,z2_0_2,-⟩,-⟩ := hS.cells
 have G1 := hide f1.num
 clear f1
 have hltw2_0 : w.heap.size < w2.heap.size := block_lt (hS.bx ⟨w.heap.size,#[.bool false,.slice a n cap,.slice a' n' cap'],50⟩ (by simp))
 replace hS := hS.alloc #[.slice A1 N1 C1] 24
 replace G1 := hide ((unhide G1).alloc (.cells #[.slice A1 N1 C1] 24))
 go_wp2_with fail
 refine (one_yes A1 N1 C1 _ _ (unhide G1) (unhide HG)).mono ?_
 rintro e w3 ⟨rfl,hb3⟩
 replace hS := hS.kept hb3
 clear z2_0_0 z2_0_1 z2_0_2
 obtain ⟨⟨z3_0_0,-⟩,⟨z3_1_0,z3_1_1,z3_1_2,-⟩,-⟩ := hS.cells
 go_wp2
 go_ret
 exact ⟨rfl,hS.fr⟩
set_option maxHeartbeats 400000 in
theorem rk_err_t (a : Option Addr) (n cap : Nat) (a' : Option Addr) (n' cap' : Nat) (c : Int) (w : World) (hn' : 0 < n')  (hn : 0 < n) (hc : (c != 0) = true) (HG : Hid (∀ W : World,Below w.heap.size w W → Calls Tryd.prog 107 #[.agg #[.slice a n cap],.agg #[.slice a' n' cap']] W fun e w' => e = .returned (.tuple #[.agg #[.slice none 0 0],.int .i64 c]) ∧ Below W.heap.size W w')) :
  Calls Tryd.prog 62 #[.agg #[.bool true,.slice a n cap,.slice a' n' cap']] w fun e w' => e = .returned (.int .i64 20) ∧ Below w.heap.size w w' := by
 go_enter Tryd.func62,Tryd.ntmps62
 go_wp2_with fail
 refine (rno_no a' n' cap' _ hn').mono ?_
 rintro e w1 ⟨rfl,hb1⟩
 have hS := (Fs.one w _ _).kept hb1
 obtain ⟨⟨z1_0_0,z1_0_1,z1_0_2,-⟩,-⟩ := hS.cells
 go_wp2_with fail
 refine (rno_no a n cap _ hn).mono ?_
 rintro e w2 ⟨rfl,hb2⟩
 replace hS := hS.kept hb2
 clear z1_0_0 z1_0_1 z1_0_2
 obtain ⟨⟨z2_0_0,z2_0_1,z2_0_2,-⟩,-⟩ := hS.cells
 go_wp2_with fail
 refine (unhide HG _ hS.fr).mono ?_
 rintro e w3 ⟨rfl,hb3⟩
 replace hS := hS.kept hb3
 clear z2_0_0 z2_0_1 z2_0_2
 obtain ⟨⟨z3_0_0,z3_0_1,z3_0_2,-⟩,-⟩ := hS.cells
 go_wp2
 go_ret
 exact ⟨rfl,hS.fr.alloc hS.fr.size _⟩
set_option maxHeartbeats 400000 in
theorem rk_big_t (a : Option Addr) (n cap m : Nat) (a' : Option Addr) (n' cap' m' : Nat) (w : World) (hn' : 0 < n')  (hn : 0 < n) (h : Num w a n m) (h' : Num w a' n' m') (hg : Nat.gcd m m' ≠ 1) :
  Calls Tryd.prog 62 #[.agg #[.bool true,.slice a n cap,.slice a' n' cap']] w fun e w' => e = .returned (.int .i64 20) ∧ Below w.heap.size w w' := by
 have H := hide h
 have H' := hide h'
 have HG := hide hg
 clear h h' hg
 go_enter Tryd.func62,Tryd.ntmps62
 go_wp2_with fail
 refine (rno_no a' n' cap' _ hn').mono ?_
 rintro e w1 ⟨rfl,hb1⟩
 have hS := (Fs.one w _ _).kept hb1
 obtain ⟨⟨z1_0_0,z1_0_1,z1_0_2,-⟩,-⟩ := hS.cells
 go_wp2_with fail
 refine (rno_no a n cap _ hn).mono ?_
 rintro e w2 ⟨rfl,hb2⟩
 replace hS := hS.kept hb2
 clear z1_0_0 z1_0_1 z1_0_2
 obtain ⟨⟨z2_0_0,z2_0_1,z2_0_2,-⟩,-⟩ := hS.cells
 go_wp2_with fail
 refine (gcd_any a a' n n' cap cap' m m' _ ((unhide H).kept hS.fr) ((unhide H').kept hS.fr)).mono ?_
 rintro e w3 ⟨⟨A1,N1,C1,rfl,f1⟩,hb3⟩
 replace hS := hS.kept hb3
 clear z2_0_0 z2_0_1 z2_0_2
 obtain ⟨⟨z3_0_0,z3_0_1,z3_0_2,-⟩,-⟩ := hS.cells
 have G1 := hide f1.num
 clear f1
 have hltw3_0 : w.heap.size < w3.heap.size := block_lt (hS.bx ⟨w.heap.size,#[.bool true,.slice a n cap,.slice a' n' cap'],50⟩ (by simp))
 replace hS := hS.alloc #[.slice A1 N1 C1] 24
 replace G1 := hide ((unhide G1).alloc (.cells #[.slice A1 N1 C1] 24))
 go_wp2_with fail
 refine (one_no A1 N1 C1 _ _ (unhide G1) (unhide HG)).mono ?_
 rintro e w4 ⟨rfl,hb4⟩
 replace hS := hS.kept hb4
 clear z3_0_0 z3_0_1 z3_0_2
 obtain ⟨⟨z4_0_0,-⟩,⟨z4_1_0,z4_1_1,z4_1_2,-⟩,-⟩ := hS.cells
 go_wp2
 go_ret
 exact ⟨rfl,hS.fr⟩
set_option maxHeartbeats 400000 in
theorem rk_ok_t (a : Option Addr) (n cap m : Nat) (a' : Option Addr) (n' cap' m' : Nat) (w : World) (hn' : 0 < n')  (hn : 0 < n) (h : Num w a n m) (h' : Num w a' n' m') (hg : Nat.gcd m m' = 1) :
  Calls Tryd.prog 62 #[.agg #[.bool true,.slice a n cap,.slice a' n' cap']] w fun e w' => e = .returned (.int .i64 0) ∧ Below w.heap.size w w' := by
 have H := hide h
 have H' := hide h'
 have HG := hide hg
 clear h h' hg
 go_enter Tryd.func62,Tryd.ntmps62
 go_wp2_with fail
 refine (rno_no a' n' cap' _ hn').mono ?_
 rintro e w1 ⟨rfl,hb1⟩
 have hS := (Fs.one w _ _).kept hb1
 obtain ⟨⟨z1_0_0,z1_0_1,z1_0_2,-⟩,-⟩ := hS.cells
 go_wp2_with fail
 refine (rno_no a n cap _ hn).mono ?_
 rintro e w2 ⟨rfl,hb2⟩
 replace hS := hS.kept hb2
 clear z1_0_0 z1_0_1 z1_0_2
 obtain ⟨⟨z2_0_0,z2_0_1,z2_0_2,-⟩,-⟩ := hS.cells
 go_wp2_with fail
 refine (gcd_any a a' n n' cap cap' m m' _ ((unhide H).kept hS.fr) ((unhide H').kept hS.fr)).mono ?_
 rintro e w3 ⟨⟨A1,N1,C1,rfl,f1⟩,hb3⟩
 replace hS := hS.kept hb3
 clear z2_0_0 z2_0_1 z2_0_2
 obtain ⟨⟨z3_0_0,z3_0_1,z3_0_2,-⟩,-⟩ := hS.cells
 have G1 := hide f1.num
 clear f1
 have hltw3_0 : w.heap.size < w3.heap.size := block_lt (hS.bx ⟨w.heap.size,#[.bool true,.slice a n cap,.slice a' n' cap'],50⟩ (by simp))
 replace hS := hS.alloc #[.slice A1 N1 C1] 24
 replace G1 := hide ((unhide G1).alloc (.cells #[.slice A1 N1 C1] 24))
 go_wp2_with fail
 refine (one_yes A1 N1 C1 _ _ (unhide G1) (unhide HG)).mono ?_
 rintro e w4 ⟨rfl,hb4⟩
 replace hS := hS.kept hb4
 clear z3_0_0 z3_0_1 z3_0_2
 obtain ⟨⟨z4_0_0,-⟩,⟨z4_1_0,z4_1_1,z4_1_2,-⟩,-⟩ := hS.cells
 go_wp2
 go_ret
 exact ⟨rfl,hS.fr⟩
set_option maxHeartbeats 400000 in
theorem of_err (s : Bool) (a : Option Addr) (n cap : Nat) (a' : Option Addr) (n' cap' : Nat) (w : World) (HC : Hid (∀ W : World,Below w.heap.size w W → Calls Tryd.prog 62 #[.agg #[.bool s,.slice a n cap,.slice a' n' cap']] W fun e w' => e = .returned (.int .i64 20) ∧ Below W.heap.size W w')) :
  Calls Tryd.prog 26 #[.agg #[.bool s,.slice a n cap,.slice a' n' cap']] w fun e w' => e = .returned (.tuple #[.agg #[.bool false,.slice none 0 0,.int .i64 0],.bool false,.int .i64 20]) ∧ Below w.heap.size w w' := by
 go_enter Tryd.func26,Tryd.ntmps26
 go_wp2_with fail
 refine (unhide HC _ (gr_trans (gr_alloc _ _) (gr_alloc _ _))).mono ?_
 rintro e w1 ⟨rfl,hb1⟩
 have hS := (Fs.two w _ _ _ _).kept hb1
 obtain ⟨⟨z1_0_0,z1_0_1,z1_0_2,-⟩,⟨z1_1_0,z1_1_1,z1_1_2,-⟩,-⟩ := hS.cells
 have fz0 := hS.frozen (b := w.heap.size + 1) (cs := #[.bool false,.slice none 0 0,.int .i64 0]) (t := 26) (by simp) 0
 have fz1 := hS.frozen (b := w.heap.size + 1) (cs := #[.bool false,.slice none 0 0,.int .i64 0]) (t := 26) (by simp) 1
 have fz2 := hS.frozen (b := w.heap.size + 1) (cs := #[.bool false,.slice none 0 0,.int .i64 0]) (t := 26) (by simp) 2
 go_wp2
 exact bodyPost_ret (v := .tuple #[.agg #[.bool false,.slice none 0 0,.int .i64 0],.bool false,.int .i64 20]) (by simp [results,Tryd.results26,go_sem,z1_1_0,z1_1_1,z1_1_2]) rfl ⟨rfl,((hS.fr.setCell (by simp <;> omega) _).setCell (by simp <;> omega) _).setCell (by simp <;> omega) _⟩
set_option maxHeartbeats 400000 in
theorem of_no (s : Bool) (a : Option Addr) (n cap : Nat) (a' : Option Addr) (n' cap' m' k z : Nat) (w : World) (h' : Num w a' n' m') (hT : Tb w) (hm : 0 < m') (hk : Bl m' k) (hz : Tz m' z) (hz2 : z < 524288) (HC : Hid (∀ W : World,Below w.heap.size w W → Calls Tryd.prog 62 #[.agg #[.bool s,.slice a n cap,.slice a' n' cap']] W fun e w' => e = .returned (.int .i64 0) ∧ Below W.heap.size W w')) (hlt : (z : Int) + 1 < (k : Int)) :
  Calls Tryd.prog 26 #[.agg #[.bool s,.slice a n cap,.slice a' n' cap']] w fun e w' => e = .returned (.tuple #[.agg #[.bool false,.slice none 0 0,.int .i64 0],.bool false,.int .i64 0]) ∧ Below w.heap.size w w' := by
 have H' := hide h'
 have HT := hide hT
 have HM := hide hm
 have HK := hide hk
 have HZ := hide hz
 clear h' hT hm hk hz
 go_enter Tryd.func26,Tryd.ntmps26
 go_wp2_with fail
 refine (unhide HC _ (gr_trans (gr_alloc _ _) (gr_alloc _ _))).mono ?_
 rintro e w1 ⟨rfl,hb1⟩
 have hS := (Fs.two w _ _ _ _).kept hb1
 obtain ⟨⟨z1_0_0,z1_0_1,z1_0_2,-⟩,⟨z1_1_0,z1_1_1,z1_1_2,-⟩,-⟩ := hS.cells
 go_wp2_with fail
 refine (bits_k a' n' cap' m' k _ ((unhide H').kept hS.fr) (unhide HK)).mono ?_
 rintro e w2 ⟨rfl,hb2⟩
 replace hS := hS.kept hb2
 clear z1_0_0 z1_0_1 z1_0_2 z1_1_0 z1_1_1 z1_1_2
 obtain ⟨⟨z2_0_0,z2_0_1,z2_0_2,-⟩,⟨z2_1_0,z2_1_1,z2_1_2,-⟩,-⟩ := hS.cells
 go_wp2_with fail
 refine (twosIn_z a' n' cap' m' z _ ((unhide H').kept hS.fr) (unhide HM) ((unhide HT).kept hS.fr) (unhide HZ)).mono ?_
 rintro e w3 ⟨rfl,hb3⟩
 replace hS := hS.kept hb3
 clear z2_0_0 z2_0_1 z2_0_2 z2_1_0 z2_1_1 z2_1_2
 obtain ⟨⟨z3_0_0,z3_0_1,z3_0_2,-⟩,⟨z3_1_0,z3_1_1,z3_1_2,-⟩,-⟩ := hS.cells
 have fz0 := hS.frozen (b := w.heap.size + 1) (cs := #[.bool false,.slice none 0 0,.int .i64 0]) (t := 26) (by simp) 0
 have fz1 := hS.frozen (b := w.heap.size + 1) (cs := #[.bool false,.slice none 0 0,.int .i64 0]) (t := 26) (by simp) 1
 have fz2 := hS.frozen (b := w.heap.size + 1) (cs := #[.bool false,.slice none 0 0,.int .i64 0]) (t := 26) (by simp) 2
 go_wp2
 exact bodyPost_ret (v := .tuple #[.agg #[.bool false,.slice none 0 0,.int .i64 0],.bool false,.int .i64 0]) (by simp [results,Tryd.results26,go_sem,z3_1_0,z3_1_1,z3_1_2]) rfl ⟨rfl,((hS.fr.setCell (by simp <;> omega) _).setCell (by simp <;> omega) _).setCell (by simp <;> omega) _⟩
set_option maxHeartbeats 1000000 in
theorem of_yes (s : Bool) (a : Option Addr) (n cap : Nat) (a' : Option Addr) (n' cap' m' k z : Nat) (q : Bool) (v : Nat) (y : Int) (w : World) (h' : Num w a' n' m') (hT : Tb w) (hm : 0 < m') (hk : Bl m' k) (hz : Tz m' z) (hz2 : z < 524288) (HC : Hid (∀ W : World,Below w.heap.size w W → Calls Tryd.prog 62 #[.agg #[.bool s,.slice a n cap,.slice a' n' cap']] W fun e w' => e = .returned (.int .i64 0) ∧ Below W.heap.size W w')) (hle : (k : Int) ≤ (z : Int) + 1) (HMk : Hid (∀ W : World,Below w.heap.size w W → Calls Tryd.prog 11 #[.bool s,.agg #[.slice a n cap],.int .i64 (-(z : Int))] W fun e w' => (∃ A N C,e = .returned (.tuple #[.agg #[.bool q,.slice A N C,.int .i64 y],.int .i64 0]) ∧ Mine w' W.heap.size A N C v) ∧ Below W.heap.size W w')) :
  Calls Tryd.prog 26 #[.agg #[.bool s,.slice a n cap,.slice a' n' cap']] w fun e w' => (∃ A N C,e = .returned (.tuple #[.agg #[.bool q,.slice A N C,.int .i64 y],.bool true,.int .i64 0]) ∧ Mine w' w.heap.size A N C v) ∧ Below w.heap.size w w' := by
 have H' := hide h'
 have HT := hide hT
 have HM := hide hm
 have HK := hide hk
 have HZ := hide hz
 clear h' hT hm hk hz
 go_enter Tryd.func26,Tryd.ntmps26
 go_wp2_with fail
 refine (unhide HC _ (gr_trans (gr_alloc _ _) (gr_alloc _ _))).mono ?_
 rintro e w1 ⟨rfl,hb1⟩
 have hS := (Fs.two w _ _ _ _).kept hb1
 obtain ⟨⟨z1_0_0,z1_0_1,z1_0_2,-⟩,⟨z1_1_0,z1_1_1,z1_1_2,-⟩,-⟩ := hS.cells
 go_wp2_with fail
 refine (bits_k a' n' cap' m' k _ ((unhide H').kept hS.fr) (unhide HK)).mono ?_
 rintro e w2 ⟨rfl,hb2⟩
 replace hS := hS.kept hb2
 clear z1_0_0 z1_0_1 z1_0_2 z1_1_0 z1_1_1 z1_1_2
 obtain ⟨⟨z2_0_0,z2_0_1,z2_0_2,-⟩,⟨z2_1_0,z2_1_1,z2_1_2,-⟩,-⟩ := hS.cells
 go_wp2_with fail
 refine (twosIn_z a' n' cap' m' z _ ((unhide H').kept hS.fr) (unhide HM) ((unhide HT).kept hS.fr) (unhide HZ)).mono ?_
 rintro e w3 ⟨rfl,hb3⟩
 replace hS := hS.kept hb3
 clear z2_0_0 z2_0_1 z2_0_2 z2_1_0 z2_1_1 z2_1_2
 obtain ⟨⟨z3_0_0,z3_0_1,z3_0_2,-⟩,⟨z3_1_0,z3_1_1,z3_1_2,-⟩,-⟩ := hS.cells
 have hltw3_0 : w.heap.size < w3.heap.size := block_lt (hS.bx ⟨w.heap.size,#[.bool s,.slice a n cap,.slice a' n' cap'],50⟩ (by simp))
 have hltw3_1 : w.heap.size + 1 < w3.heap.size := block_lt (hS.bx ⟨w.heap.size + 1,#[.bool false,.slice none 0 0,.int .i64 0],26⟩ (by simp))
 go_wp2_with fail
 refine (unhide HMk _ hS.fr).mono ?_
 rintro e w4 ⟨⟨A4,N4,C4,rfl,f4⟩,hb4⟩
 replace hS := hS.kept hb4
 clear z3_0_0 z3_0_1 z3_0_2 z3_1_0 z3_1_1 z3_1_2
 obtain ⟨⟨z4_0_0,z4_0_1,z4_0_2,-⟩,⟨z4_1_0,z4_1_1,z4_1_2,-⟩,-⟩ := hS.cells
 have hltw4_0 : w.heap.size < w4.heap.size := block_lt (hS.bx ⟨w.heap.size,#[.bool s,.slice a n cap,.slice a' n' cap'],50⟩ (by simp))
 have hltw4_1 : w.heap.size + 1 < w4.heap.size := block_lt (hS.bx ⟨w.heap.size + 1,#[.bool false,.slice none 0 0,.int .i64 0],26⟩ (by simp))
 have F4 := hide f4
 clear f4
 have fz0 := hS.frozen (b := w.heap.size + 1) (cs := #[.bool false,.slice none 0 0,.int .i64 0]) (t := 26) (by simp) 0
 have fz1 := hS.frozen (b := w.heap.size + 1) (cs := #[.bool false,.slice none 0 0,.int .i64 0]) (t := 26) (by simp) 1
 have fz2 := hS.frozen (b := w.heap.size + 1) (cs := #[.bool false,.slice none 0 0,.int .i64 0]) (t := 26) (by simp) 2
 go_wp2
 have hB := fun u0 u1 u2 => ((hS.fr.setCell (p := ⟨w.heap.size + 1,0,none⟩) (by simp) u0).setCell (p := ⟨w.heap.size + 1,1,none⟩) (by simp) u1).setCell (p := ⟨w.heap.size + 1,2,none⟩) (by simp) u2
 exact bodyPost_ret (v := .tuple #[.agg #[.bool q,.slice A4 N4 C4,.int .i64 y],.bool true,.int .i64 0]) (by simp [results,Tryd.results26,go_sem,z4_1_0,z4_1_1,z4_1_2,hltw4_1]) rfl
  ⟨⟨_,_,_,rfl,(((((unhide F4).set (by exact hltw3_1) _).set (by exact hltw3_1) _).set (by exact hltw3_1) _).alloc _).mono (by omega)⟩,(hB _ _ _).alloc (hB _ _ _).size _⟩
set_option maxHeartbeats 400000 in
theorem xr_err (s : Bool) (a : Option Addr) (n cap : Nat) (x c : Int) (w : World) (hc : (c != 0) = true) (HC : Hid (∀ W : World,Below w.heap.size w W → Calls Tryd.prog 29 #[.agg #[.bool s,.slice a n cap,.int .i64 x]] W fun e w' => e = .returned (.int .i64 c) ∧ Below W.heap.size W w')) :
  Calls Tryd.prog 23 #[.agg #[.bool s,.slice a n cap,.int .i64 x]] w fun e w' => e = .returned (.tuple #[.agg #[.bool false,.slice none 0 0,.slice none 0 0],.int .i64 c]) ∧ Below w.heap.size w w' := by
 go_enter Tryd.func23,Tryd.ntmps23
 go_wp2_with fail
 refine (unhide HC _ (gr_trans (gr_alloc _ _) (gr_alloc _ _))).mono ?_
 rintro e w1 ⟨rfl,hb1⟩
 have hS := (Fs.two w _ _ _ _).kept hb1
 obtain ⟨⟨z1_0_0,z1_0_1,z1_0_2,-⟩,⟨z1_1_0,z1_1_1,z1_1_2,-⟩,-⟩ := hS.cells
 have fz0 := hS.frozen (b := w.heap.size + 1) (cs := #[.bool false,.slice none 0 0,.slice none 0 0]) (t := 50) (by simp) 0
 have fz1 := hS.frozen (b := w.heap.size + 1) (cs := #[.bool false,.slice none 0 0,.slice none 0 0]) (t := 50) (by simp) 1
 have fz2 := hS.frozen (b := w.heap.size + 1) (cs := #[.bool false,.slice none 0 0,.slice none 0 0]) (t := 50) (by simp) 2
 go_wp2
 exact bodyPost_ret (v := .tuple #[.agg #[.bool false,.slice none 0 0,.slice none 0 0],.int .i64 c]) (by simp [results,Tryd.results23,go_sem,z1_1_0,z1_1_1,z1_1_2]) rfl ⟨rfl,((hS.fr.setCell (by simp <;> omega) _).setCell (by simp <;> omega) _).setCell (by simp <;> omega) _⟩
set_option maxHeartbeats 400000 in
theorem xr_over (s : Bool) (a : Option Addr) (n cap : Nat) (x : Int) (i : Nat) (w : World) (hi : max x 0 = (i : Int)) (HC : Hid (∀ W : World,Below w.heap.size w W → Calls Tryd.prog 29 #[.agg #[.bool s,.slice a n cap,.int .i64 x]] W fun e w' => e = .returned (.int .i64 0) ∧ Below W.heap.size W w')) (HU : Hid (∀ W : World,Below w.heap.size w W → Calls Tryd.prog 59 #[.agg #[.slice a n cap],.int .i64 (i : Int)] W fun e w' => e = .returned (.tuple #[.agg #[.slice none 0 0],.int .i64 4]) ∧ Below W.heap.size W w')) :
  Calls Tryd.prog 23 #[.agg #[.bool s,.slice a n cap,.int .i64 x]] w fun e w' => e = .returned (.tuple #[.agg #[.bool false,.slice none 0 0,.slice none 0 0],.int .i64 4]) ∧ Below w.heap.size w w' := by
 go_enter Tryd.func23,Tryd.ntmps23
 go_wp2_with fail
 refine (unhide HC _ (gr_trans (gr_alloc _ _) (gr_alloc _ _))).mono ?_
 rintro e w1 ⟨rfl,hb1⟩
 have hS := (Fs.two w _ _ _ _).kept hb1
 obtain ⟨⟨z1_0_0,z1_0_1,z1_0_2,-⟩,⟨z1_1_0,z1_1_1,z1_1_2,-⟩,-⟩ := hS.cells
 go_wp2_with fail
 try rw [hi]
 go_wp2_with fail
 refine (unhide HU _ hS.fr).mono ?_
 rintro e w2 ⟨rfl,hb2⟩
 replace hS := hS.kept hb2
 clear z1_0_0 z1_0_1 z1_0_2 z1_1_0 z1_1_1 z1_1_2
 obtain ⟨⟨z2_0_0,z2_0_1,z2_0_2,-⟩,⟨z2_1_0,z2_1_1,z2_1_2,-⟩,-⟩ := hS.cells
 have hltw2_0 : w.heap.size < w2.heap.size := block_lt (hS.bx ⟨w.heap.size,#[.bool s,.slice a n cap,.int .i64 x],26⟩ (by simp))
 have hltw2_1 : w.heap.size + 1 < w2.heap.size := block_lt (hS.bx ⟨w.heap.size + 1,#[.bool false,.slice none 0 0,.slice none 0 0],50⟩ (by simp))
 have fz0 := hS.frozen (b := w.heap.size + 1) (cs := #[.bool false,.slice none 0 0,.slice none 0 0]) (t := 50) (by simp) 0
 have fz1 := hS.frozen (b := w.heap.size + 1) (cs := #[.bool false,.slice none 0 0,.slice none 0 0]) (t := 50) (by simp) 1
 have fz2 := hS.frozen (b := w.heap.size + 1) (cs := #[.bool false,.slice none 0 0,.slice none 0 0]) (t := 50) (by simp) 2
 go_wp2
 have hB := fun u0 u1 u2 => ((hS.fr.setCell (p := ⟨w.heap.size + 1,0,none⟩) (by simp) u0).setCell (p := ⟨w.heap.size + 1,1,none⟩) (by simp) u1).setCell (p := ⟨w.heap.size + 1,2,none⟩) (by simp) u2
 exact bodyPost_ret (v := .tuple #[.agg #[.bool false,.slice none 0 0,.slice none 0 0],.int .i64 4]) (by simp [results,Tryd.results23,go_sem,z2_1_0,z2_1_1,z2_1_2,hltw2_1]) rfl ⟨rfl,(hB _ _ _).alloc (hB _ _ _).size _⟩
end Go.Proofs.YtecmcjlgknfnlaaDoor
namespace Go.Proofs.YtecmcjlgknfnlaaDoor
open Go.RowKit
structure Xrok3S where
 (b0 b1 b2 b3 b4 b5 b6 b7 b8 b9 b10 b11 : Bool)
 (v0 v1 v2 v3 v4 v5 v6 v7 v8 v9 v11 : Value)
 (A0 : Option Addr)
 (N0 C0 : Nat)
 (A5 : Option Addr)
 (N5 C5 : Nat)
 bs9 : List En
 os9 : Os
structure Xrok3R (w : World) (s : Bool) (a : Option Addr) (n cap m : Nat) (z : Int) (i j V M : Nat) (er : Int) (yA2 : Option Addr) (yN2 yC2 : Nat) (w2 : World) (S9 : Nat) (b0 b1 b2 b3 b4 b5 b6 b7 b8 b9 b10 b11 : Bool) (v0 v1 v2 v3 v4 v5 v6 v7 v8 v9 v11 : Value) (A0 : Option Addr) (N0 C0 : Nat) (A5 : Option Addr) (N5 C5 : Nat) (bs9 : List En) (os9 : Os) (w' : World) : Prop where
 hc : Rc w S9 [⟨w2.heap.size,#[.slice yA2 yN2 yC2],24⟩,⟨w.heap.size + 1,#[.bool false,.slice none 0 0,.slice none 0 0],50⟩,⟨w.heap.size,#[.bool s,.slice a n cap,.int .i64 z],26⟩] [(a,n,m)] [(yA2,yN2,yC2,V)] none bs9 os9 w'
 f0 : b0 = true → v0 = .agg #[.slice A0 N0 C0] ∧ (A0,N0,C0,1) ∈ os9
 f1 : b1 = true → v1 = .pointer (some ⟨w.heap.size,2,none⟩)
 f2 : b2 = true → v2 = .int .i64 z
 f3 : b3 = true → v3 = .int .i64 (-z)
 f4 : b4 = true → v4 = .int .i64 j
 f5 : b5 = true → v5 = .tuple #[.agg #[.slice A5 N5 C5],.int .i64 er] ∧ (A5,N5,C5,M) ∈ os9
 f6 : b6 = true → v6 = .tuple #[.agg #[.slice A5 N5 C5],.int .i64 er]
 f7 : b7 = true → v7 = .agg #[.slice A5 N5 C5]
 f8 : b8 = true → v8 = .int .i64 er
 f9 : b9 = true → AlV bs9 S9 v9 24
 f10 : b10 = true → StV bs9 S9 v9 v7 24
 f11 : b11 = true → v11 = .int .i64 er
 g5_0 : b5 = true → b0 = true
 g6_5 : b6 = true → b5 = true
 g6_0 : b6 = true → b0 = true
 g7_5 : b7 = true → b5 = true
 g7_0 : b7 = true → b0 = true
 g8_5 : b8 = true → b5 = true
 g8_0 : b8 = true → b0 = true
 g10_9 : b10 = true → b9 = true
 g10_7 : b10 = true → b7 = true
 g10_5 : b10 = true → b5 = true
 g10_0 : b10 = true → b0 = true
 g11_5 : b11 = true → b5 = true
 g11_0 : b11 = true → b0 = true
def Xrok3I (w : World) (s : Bool) (a : Option Addr) (n cap m : Nat) (z : Int) (i j V M : Nat) (er : Int) (yA2 : Option Addr) (yN2 yC2 : Nat) (w2 : World) (S9 : Nat) (l : Array Bool) (act : Act) (w' : World) : Xrok3S → Prop
 | ⟨b0,b1,b2,b3,b4,b5,b6,b7,b8,b9,b10,b11,v0,v1,v2,v3,v4,v5,v6,v7,v8,v9,v11,A0,N0,C0,A5,N5,C5,bs9,os9⟩ => l = #[b0,b1,b2,b3,b4,b5,b6,b7,b8,b9,b10,b11] ∧ act = { tmps := #[.agg #[.bool s,.slice a n cap,.int .i64 z],.pointer (some ⟨w.heap.size,0,none⟩),.pointer (some ⟨w.heap.size + 1,0,none⟩),.int .i64 0,.int .i64 0,.pointer (some ⟨w2.heap.size,0,none⟩),v11,v9,.agg #[.bool s,.slice a n cap,.int .i64 z],.int .i64 0,.int .i64 0,.bool false,undef,undef,.tuple #[.agg #[.slice yA2 yN2 yC2],.int .i64 0],.pointer (some ⟨w.heap.size,1,none⟩),.agg #[.slice a n cap],.pointer (some ⟨w.heap.size,2,none⟩),.int .i64 z,.int .i64 i,.tuple #[.agg #[.slice yA2 yN2 yC2],.int .i64 0],.agg #[.slice yA2 yN2 yC2],.int .i64 0,.int .i64 0,.bool false,undef,undef,v6,v0,v1,v2,v3,v4,v5,v7,v8,undef,undef,undef,undef,undef,undef,undef,undef,undef],defers := [] } ∧ Xrok3R w s a n cap m z i j V M er yA2 yN2 yC2 w2 S9 b0 b1 b2 b3 b4 b5 b6 b7 b8 b9 b10 b11 v0 v1 v2 v3 v4 v5 v6 v7 v8 v9 v11 A0 N0 C0 A5 N5 C5 bs9 os9 w'
set_option maxRecDepth 20000 in
set_option maxHeartbeats 4000000 in
theorem xr_ok (w : World) (s : Bool) (a : Option Addr) (n cap m : Nat) (z : Int) (i j V M : Nat) (er : Int) (h : Num w a n m) (hx : -1073741824 ≤ z ∧ z ≤ 1073741824) (hi : max z 0 = (i : Int)) (hj : max (-z) 0 = (j : Int)) (her : er = 0) (HC : Hid (∀ (W : World) (A : Option Addr) (N C : Nat),Num W A N m → Calls Tryd.prog 29 #[.agg #[.bool s,.slice A N C,.int .i64 z]] W fun e w' => e = .returned (.int .i64 0) ∧ Below W.heap.size W w')) (HU : Hid (∀ (W : World) (A : Option Addr) (N C : Nat),Num W A N m → Calls Tryd.prog 59 #[.agg #[.slice A N C],.int .i64 (i : Int)] W fun en W' => (∃ a n c,en = .returned (.tuple #[.agg #[.slice a n c],.int .i64 0]) ∧ Mine W' W.heap.size a n c V) ∧ Below W.heap.size W W')) (HD : Hid (∀ (W : World) (A : Option Addr) (N C : Nat),Num W A N 1 → Calls Tryd.prog 59 #[.agg #[.slice A N C],.int .i64 (j : Int)] W fun en W' => (∃ a n c,en = .returned (.tuple #[.agg #[.slice a n c],.int .i64 er]) ∧ Mine W' W.heap.size a n c M) ∧ Below W.heap.size W W')) :
  Calls Tryd.prog 23 #[.agg #[.bool s,.slice a n cap,.int .i64 z]] w fun en w' => (∃ A N C A' N' C',en = .returned (.tuple #[.agg #[.bool s,.slice A N C,.slice A' N' C'],.int .i64 0]) ∧ Mine w' w.heap.size A N C V ∧ Mine w' w.heap.size A' N' C' M) ∧ Below w.heap.size w w' := by
 have her2 : (er != 0) = false := by simp [her]
 have HE := hide her
 clear her
 have hS := Rs.begin w
 replace hS := hS.num h
 replace hS := hS.alloc #[.bool s,.slice a n cap,.int .i64 z] 26
 try simp only [World.size_alloc] at hS
 replace hS := hS.alloc #[.bool false,.slice none 0 0,.slice none 0 0] 50
 try simp only [World.size_alloc] at hS
 go_enter Tryd.func23,Tryd.ntmps23
 go_wp2_with fail
 refine (unhide HC _ _ _ _ (hS.nm (a,n,m) (by simp))).mono ?_
 rintro en w1 ⟨rfl,hb9⟩
 have hz1 := hb9.size
 replace hS := hS.kept hb9
 clear hb9
 simp only [World.size_alloc] at hz1
 obtain ⟨⟨k0_0,k0_1,k0_2,-⟩,-⟩ := hS.cz ⟨w.heap.size,#[.bool s,.slice a n cap,.int .i64 z],26⟩ (by simp)
 simp only [] at k0_0 k0_1 k0_2
 go_wp2_with fail
 clear k0_0 k0_1 k0_2
 try rw [hi]
 refine (W_oft hS (unhide HU _ _ _ _ (hS.nm (a,n,m) (by simp)))).mono ?_
 clear hS; rintro en w2 ⟨yA2,yN2,yC2,rfl,hS,hz2⟩
 replace hS := hS.alloc #[.slice yA2 yN2 yC2] 24
 try simp only [World.size_alloc] at hS
 go_wp2_with fail
 refine wp_region_any (by kernel_rfl) ?_
 change wpAny _ _ _ _ _ _ _ (World.drew _)
 have hS9 := hS.drew
 have hsW9 : (World.drew (w2.alloc (.cells #[.slice yA2 yN2 yC2] 24))).heap.size = w2.heap.size + 1 := by first | rfl | simp
 generalize World.drew (w2.alloc (.cells #[.slice yA2 yN2 yC2] 24)) = Wd at hS9 hsW9 ⊢
 obtain ⟨S9,hS9z⟩ : ∃ x,x = Wd.heap.size := ⟨_,rfl⟩
 have hC9 := Rc.start (bs := [⟨w2.heap.size,#[.slice yA2 yN2 yC2],24⟩,⟨w.heap.size + 1,#[.bool false,.slice none 0 0,.slice none 0 0],50⟩,⟨w.heap.size,#[.bool s,.slice a n cap,.int .i64 z],26⟩]) hS9 (by simp)
 rw [← hS9z] at hC9
 refine wpAny_inv (fun l act w' => ∃ σ,Xrok3I w s a n cap m z i j V M er yA2 yN2 yC2 w2 S9 l act w' σ) ?_ ?_ _ _ _ _ ?_ ?_
 ·intro l act w' i9 hI9 hi9 hl9
  have hin9 : i9 < 12 := by
   by_cases h : i9 < 12
   ·exact h
   ·obtain ⟨⟨⟩,rfl,_⟩ := hI9
    rw [Array.getElem?_eq_none (by simp; omega)] at hl9; cases hl9
  have hcase : i9 = 0 ∨ i9 = 1 ∨ i9 = 2 ∨ i9 = 3 ∨ i9 = 4 ∨ i9 = 5 ∨ i9 = 6 ∨ i9 = 7 ∨ i9 = 8 ∨ i9 = 9 ∨ i9 = 10 ∨ i9 = 11 := by omega
  clear hin9
  obtain ⟨⟨b0,b1,b2,b3,b4,b5,b6,b7,b8,b9,b10,b11,v0,v1,v2,v3,v4,v5,v6,v7,v8,v9,v11,A0,N0,C0,A5,N5,C5,bs9,os9⟩,rfl,rfl,hR⟩ := hI9
  rcases hcase with rfl | rfl | rfl | rfl | rfl | rfl | rfl | rfl | rfl | rfl | rfl | rfl
  ·obtain rfl : b0 = false := by simpa using hl9
   clear hl9
   clear hi9
   have hc := hR.hc
   have HR := hide hR
   clear hR
   refine wpOp_step rfl (fun K hK => ?_)
   go_simp
   go_wp2_with fail
   refine (W_of hc.st 1 (by omega)).mono ?_
   rintro en w9 ⟨a9,n9,c9,rfl,hs9,hz9⟩
   have hR := unhide HR
   exact hK _ _ ⟨⟨_,_,_,_,_,_,_,_,_,_,_,_,_,_,_,_,_,_,_,_,_,_,_,_,_,_,A5,N5,C5,_,_⟩,rfl,rfl,{ hR with hc := (hc.call hs9 hz9 (fun y hy => List.mem_cons_of_mem _ hy)),f0 := (fun _ => ⟨rfl,List.mem_cons_self ..⟩),f5 := (fun h => Bool.noConfusion (hR.g5_0 h)),f6 := (fun h => Bool.noConfusion (hR.g6_0 h)),f7 := (fun h => Bool.noConfusion (hR.g7_0 h)),f8 := (fun h => Bool.noConfusion (hR.g8_0 h)),f10 := (fun h => Bool.noConfusion (hR.g10_0 h)),f11 := (fun h => Bool.noConfusion (hR.g11_0 h)),g5_0 := (fun _ => rfl),g6_0 := (fun _ => rfl),g7_0 := (fun _ => rfl),g8_0 := (fun _ => rfl),g10_0 := (fun _ => rfl),g11_0 := (fun _ => rfl) }⟩
  ·obtain rfl : b1 = false := by simpa using hl9
   clear hl9
   clear hi9
   have hc := hR.hc
   refine wpOp_step rfl (fun K hK => ?_)
   go_simp
   exact hK _ _ ⟨⟨_,_,_,_,_,_,_,_,_,_,_,_,_,_,_,_,_,_,_,_,_,_,_,A0,N0,C0,A5,N5,C5,_,_⟩,rfl,rfl,{ hR with hc := hc,f1 := (fun _ => rfl) }⟩
  ·obtain rfl : b2 = false := by simpa using hl9
   clear hl9
   obtain ⟨o9,ho9,hd9⟩ := (mem_ready.1 hi9).2
   cases ho9
   have e1 : b1 = true := hd9 ⟨1,.data⟩ (by simp) rfl
   clear hd9
   subst e1
   clear hi9
   have h9 := hR.f1 rfl
   subst h9
   have hc := hR.hc
   have c9_0 := hc.st.cellAt (hc.old ⟨w.heap.size,#[.bool s,.slice a n cap,.int .i64 z],26⟩ (by simp)).1 2 (.int .i64 z) rfl
   simp only [] at c9_0
   refine wpOp_step rfl (fun K hK => ?_)
   go_simp
   exact hK _ _ ⟨⟨_,_,_,_,_,_,_,_,_,_,_,_,_,_,_,_,_,_,_,_,_,_,_,A0,N0,C0,A5,N5,C5,_,_⟩,rfl,rfl,{ hR with hc := hc,f2 := (fun _ => rfl) }⟩
  ·obtain rfl : b3 = false := by simpa using hl9
   clear hl9
   obtain ⟨o9,ho9,hd9⟩ := (mem_ready.1 hi9).2
   cases ho9
   have e2 : b2 = true := hd9 ⟨2,.data⟩ (by simp) rfl
   clear hd9
   subst e2
   clear hi9
   have h9 := hR.f2 rfl
   subst h9
   have hc := hR.hc
   refine wpOp_step rfl (fun K hK => ?_)
   go_simp
   exact hK _ _ ⟨⟨_,_,_,_,_,_,_,_,_,_,_,_,_,_,_,_,_,_,_,_,_,_,_,A0,N0,C0,A5,N5,C5,_,_⟩,rfl,rfl,{ hR with hc := hc,f3 := (fun _ => by first | rfl | (show Value.int _ _ = Value.int _ _; congr 1; rw [IntKind.wrap_i64]; omega)) }⟩
  ·obtain rfl : b4 = false := by simpa using hl9
   clear hl9
   obtain ⟨o9,ho9,hd9⟩ := (mem_ready.1 hi9).2
   cases ho9
   have e3 : b3 = true := hd9 ⟨3,.data⟩ (by simp) rfl
   clear hd9
   subst e3
   clear hi9
   have h9 := hR.f3 rfl
   subst h9
   have hc := hR.hc
   refine wpOp_step rfl (fun K hK => ?_)
   go_simp
   exact hK _ _ ⟨⟨_,_,_,_,_,_,_,_,_,_,_,_,_,_,_,_,_,_,_,_,_,_,_,A0,N0,C0,A5,N5,C5,_,_⟩,rfl,rfl,{ hR with hc := hc,f4 := (fun _ => by first | rfl | (rw [hj]) | simp [hj] | (congr 1)) }⟩
  ·obtain rfl : b5 = false := by simpa using hl9
   clear hl9
   obtain ⟨o9,ho9,hd9⟩ := (mem_ready.1 hi9).2
   cases ho9
   have e0 : b0 = true := hd9 ⟨0,.data⟩ (by simp) rfl
   have e4 : b4 = true := hd9 ⟨4,.data⟩ (by simp) rfl
   clear hd9
   subst e0 e4
   clear hi9
   have q0 := hR.f0 rfl
   obtain ⟨h9,q0m⟩ := q0
   subst h9
   have h9 := hR.f4 rfl
   subst h9
   have hc := hR.hc
   have HR := hide hR
   clear hR
   refine wpOp_step rfl (fun K hK => ?_)
   go_simp
   go_wp2_with fail
   refine (W_oft hc.st (unhide HD _ _ _ _ (hc.st.ow _ q0m).num)).mono ?_
   rintro en w9 ⟨a9,n9,c9,rfl,hs9,hz9⟩
   have hR := unhide HR
   exact hK _ _ ⟨⟨_,_,_,_,_,_,_,_,_,_,_,_,_,_,_,_,_,_,_,_,_,_,_,A0,N0,C0,_,_,_,_,_⟩,rfl,rfl,{ hR with hc := (hc.call hs9 hz9 (fun y hy => List.mem_cons_of_mem _ hy)),f0 := (fun h => ⟨(hR.f0 h).1,List.mem_cons_of_mem _ (hR.f0 h).2⟩),f5 := (fun _ => ⟨rfl,List.mem_cons_self ..⟩),f6 := (fun h => Bool.noConfusion (hR.g6_5 h)),f7 := (fun h => Bool.noConfusion (hR.g7_5 h)),f8 := (fun h => Bool.noConfusion (hR.g8_5 h)),f10 := (fun h => Bool.noConfusion (hR.g10_5 h)),f11 := (fun h => Bool.noConfusion (hR.g11_5 h)),g5_0 := (fun _ => rfl),g6_5 := (fun _ => rfl),g7_5 := (fun _ => rfl),g8_5 := (fun _ => rfl),g10_5 := (fun _ => rfl),g11_5 := (fun _ => rfl) }⟩
  ·obtain rfl : b6 = false := by simpa using hl9
   clear hl9
   obtain ⟨o9,ho9,hd9⟩ := (mem_ready.1 hi9).2
   cases ho9
   have e5 : b5 = true := hd9 ⟨5,.data⟩ (by simp) rfl
   clear hd9
   subst e5
   clear hi9
   have q5 := hR.f5 rfl
   obtain ⟨h9,q5m⟩ := q5
   subst h9
   have hc := hR.hc
   refine wpOp_step rfl (fun K hK => ?_)
   go_simp
   exact hK _ _ ⟨⟨_,_,_,_,_,_,_,_,_,_,_,_,_,_,_,_,_,_,_,_,_,_,_,A0,N0,C0,A5,N5,C5,_,_⟩,rfl,rfl,{ hR with hc := hc,f6 := (fun _ => rfl),g6_5 := (fun _ => rfl),g6_0 := (fun _ => hR.g5_0 rfl) }⟩
  ·obtain rfl : b7 = false := by simpa using hl9
   clear hl9
   obtain ⟨o9,ho9,hd9⟩ := (mem_ready.1 hi9).2
   cases ho9
   have e6 : b6 = true := hd9 ⟨6,.data⟩ (by simp) rfl
   clear hd9
   subst e6
   clear hi9
   obtain rfl : b5 = true := hR.g6_5 rfl
   have q5 := hR.f5 rfl
   obtain ⟨h9,q5m⟩ := q5
   subst h9
   obtain rfl : b0 = true := hR.g6_0 rfl
   have q0 := hR.f0 rfl
   obtain ⟨h9,q0m⟩ := q0
   subst h9
   have h9 := hR.f6 rfl
   subst h9
   have hc := hR.hc
   refine wpOp_step rfl (fun K hK => ?_)
   go_simp
   exact hK _ _ ⟨⟨_,_,_,_,_,_,_,_,_,_,_,_,_,_,_,_,_,_,_,_,_,_,_,A0,N0,C0,A5,N5,C5,_,_⟩,rfl,rfl,{ hR with hc := hc,f7 := (fun _ => rfl),f10 := (fun h => Bool.noConfusion (hR.g10_7 h)),g7_5 := (fun _ => rfl),g7_0 := (fun _ => rfl),g10_7 := (fun _ => rfl) }⟩
  ·obtain rfl : b8 = false := by simpa using hl9
   clear hl9
   obtain ⟨o9,ho9,hd9⟩ := (mem_ready.1 hi9).2
   cases ho9
   have e6 : b6 = true := hd9 ⟨6,.data⟩ (by simp) rfl
   clear hd9
   subst e6
   clear hi9
   obtain rfl : b5 = true := hR.g6_5 rfl
   have q5 := hR.f5 rfl
   obtain ⟨h9,q5m⟩ := q5
   subst h9
   obtain rfl : b0 = true := hR.g6_0 rfl
   have q0 := hR.f0 rfl
   obtain ⟨h9,q0m⟩ := q0
   subst h9
   have h9 := hR.f6 rfl
   subst h9
   have hc := hR.hc
   refine wpOp_step rfl (fun K hK => ?_)
   go_simp
   exact hK _ _ ⟨⟨_,_,_,_,_,_,_,_,_,_,_,_,_,_,_,_,_,_,_,_,_,_,_,A0,N0,C0,A5,N5,C5,_,_⟩,rfl,rfl,{ hR with hc := hc,f8 := (fun _ => rfl),g8_5 := (fun _ => rfl),g8_0 := (fun _ => rfl) }⟩
  ·obtain rfl : b9 = false := by simpa using hl9
   clear hl9
   clear hi9
   have hc := hR.hc
   refine wpOp_step rfl (fun K hK => ?_)
   go_simp
   exact hK _ _ ⟨⟨_,_,_,_,_,_,_,_,_,_,_,_,_,_,_,_,_,_,_,_,_,_,_,A0,N0,C0,A5,N5,C5,_,_⟩,rfl,rfl,{ hR with hc := (hc.alloc #[.slice none 0 0] 24),f9 := (fun _ => AlV.self rfl hc.sz),f10 := (fun h => Bool.noConfusion (hR.g10_9 h)),g10_9 := (fun _ => rfl) }⟩
  ·obtain rfl : b10 = false := by simpa using hl9
   clear hl9
   obtain ⟨o9,ho9,hd9⟩ := (mem_ready.1 hi9).2
   cases ho9
   have e7 : b7 = true := hd9 ⟨7,.data⟩ (by simp) rfl
   have e9 : b9 = true := hd9 ⟨9,.data⟩ (by simp) rfl
   clear hd9
   subst e7 e9
   clear hi9
   obtain rfl : b5 = true := hR.g7_5 rfl
   have q5 := hR.f5 rfl
   obtain ⟨h9,q5m⟩ := q5
   subst h9
   obtain rfl : b0 = true := hR.g7_0 rfl
   have q0 := hR.f0 rfl
   obtain ⟨h9,q0m⟩ := q0
   subst h9
   have h9 := hR.f7 rfl
   subst h9
   have hc := hR.hc
   obtain ⟨g9,s9,h9,hg9,hm9⟩ := hR.f9 rfl
   subst h9
   have fz9 := hc.st.frozen hm9 0
   have cz9 := hc.st.cellAt hm9 0 s9 rfl
   simp only [] at fz9 cz9
   have hn9 : ∀ x,x ∈ ([⟨w2.heap.size,#[.slice yA2 yN2 yC2],24⟩,⟨w.heap.size + 1,#[.bool false,.slice none 0 0,.slice none 0 0],50⟩,⟨w.heap.size,#[.bool s,.slice a n cap,.int .i64 z],26⟩] : List En) → x.b ≠ g9 := fun x hx => by have := (hc.old x hx).2; omega
   refine wpOp_step rfl (fun K hK => ?_)
   go_simp
   exact hK _ _ ⟨⟨_,_,_,_,_,_,_,_,_,_,_,_,_,_,_,_,_,_,_,_,_,_,_,A0,N0,C0,A5,N5,C5,_,_⟩,rfl,rfl,{ hR with hc := (hc.store hm9 (by have := hc.w0s; omega) hn9 0 (.slice A5 N5 C5) (by simp)),f9 := (fun _ => AlV.self rfl hg9),f10 := (fun _ => ⟨g9,_,rfl,hg9,rfl,List.mem_cons_self ..⟩),g10_9 := (fun _ => rfl),g10_7 := (fun _ => rfl),g10_5 := (fun _ => rfl),g10_0 := (fun _ => rfl) }⟩
  ·obtain rfl : b11 = false := by simpa using hl9
   clear hl9
   obtain ⟨o9,ho9,hd9⟩ := (mem_ready.1 hi9).2
   cases ho9
   have e8 : b8 = true := hd9 ⟨8,.data⟩ (by simp) rfl
   clear hd9
   subst e8
   clear hi9
   obtain rfl : b5 = true := hR.g8_5 rfl
   have q5 := hR.f5 rfl
   obtain ⟨h9,q5m⟩ := q5
   subst h9
   obtain rfl : b0 = true := hR.g8_0 rfl
   have q0 := hR.f0 rfl
   obtain ⟨h9,q0m⟩ := q0
   subst h9
   have h9 := hR.f8 rfl
   subst h9
   have hc := hR.hc
   refine wpOp_step rfl (fun K hK => ?_)
   go_simp
   exact hK _ _ ⟨⟨_,_,_,_,_,_,_,_,_,_,_,_,_,_,_,_,_,_,_,_,_,_,_,A0,N0,C0,A5,N5,C5,_,_⟩,rfl,rfl,{ hR with hc := hc,f11 := (fun _ => rfl),g11_5 := (fun _ => rfl),g11_0 := (fun _ => rfl) }⟩
 ·rintro l act Wq3 ⟨⟨b0,b1,b2,b3,b4,b5,b6,b7,b8,b9,b10,b11,v0,v1,v2,v3,v4,v5,v6,v7,v8,v9,v11,x3_A0,x3_N0,x3_C0,x3_A5,x3_N5,x3_C5,bs9,os9⟩,rfl,rfl,hR⟩ hr9
  obtain ⟨hc,f0,f1,f2,f3,f4,f5,f6,f7,f8,f9,f10,f11,g5_0,g6_5,g6_0,g7_5,g7_0,g8_5,g8_0,g10_9,g10_7,g10_5,g10_0,g11_5,g11_0⟩ := hR
  have eall := all_done hr9 (by kernel_rfl) rfl
  obtain rfl : b0 = true := eall 0 (by decide)
  obtain rfl : b1 = true := eall 1 (by decide)
  obtain rfl : b2 = true := eall 2 (by decide)
  obtain rfl : b3 = true := eall 3 (by decide)
  obtain rfl : b4 = true := eall 4 (by decide)
  obtain rfl : b5 = true := eall 5 (by decide)
  obtain rfl : b6 = true := eall 6 (by decide)
  obtain rfl : b7 = true := eall 7 (by decide)
  obtain rfl : b8 = true := eall 8 (by decide)
  obtain rfl : b9 = true := eall 9 (by decide)
  obtain rfl : b10 = true := eall 10 (by decide)
  obtain rfl : b11 = true := eall 11 (by decide)
  clear hr9 eall
  obtain ⟨h9,q0m⟩ := f0 rfl
  subst h9
  have h9 := f1 rfl
  subst h9
  have h9 := f2 rfl
  subst h9
  have h9 := f3 rfl
  subst h9
  have h9 := f4 rfl
  subst h9
  obtain ⟨h9,q5m⟩ := f5 rfl
  subst h9
  have h9 := f6 rfl
  subst h9
  have h9 := f7 rfl
  subst h9
  have h9 := f8 rfl
  subst h9
  obtain ⟨x3_g9,s9,h9,hg9,hs9,hm9⟩ := f10 rfl
  subst h9
  obtain rfl : s9 = .slice x3_A5 x3_N5 x3_C5 := by simpa using hs9.symm
  clear hs9
  have h9 := f11 rfl
  subst h9
  have hbs9 : ∀ x,x ∈ ([⟨x3_g9,#[.slice x3_A5 x3_N5 x3_C5],24⟩,⟨w2.heap.size,#[.slice yA2 yN2 yC2],24⟩,⟨w.heap.size + 1,#[.bool false,.slice none 0 0,.slice none 0 0],50⟩,⟨w.heap.size,#[.bool s,.slice a n cap,.int .i64 z],26⟩] : List En) → x ∈ bs9 := by
   intro x hx
   rcases List.mem_cons.1 hx with rfl | hx
   ·exact hm9
   rcases List.mem_cons.1 hx with rfl | hx
   ·exact (hc.old _ (by simp)).1
   rcases List.mem_cons.1 hx with rfl | hx
   ·exact (hc.old _ (by simp)).1
   rcases List.mem_cons.1 hx with rfl | hx
   ·exact (hc.old _ (by simp)).1
   exact absurd hx List.not_mem_nil
  have hos9 : ∀ x,x ∈ ([(x3_A0,x3_N0,x3_C0,1),(x3_A5,x3_N5,x3_C5,M),(yA2,yN2,yC2,V)] : Os) → x ∈ os9 := by
   intro x hx
   rcases List.mem_cons.1 hx with rfl | hx
   ·exact q0m
   rcases List.mem_cons.1 hx with rfl | hx
   ·exact q5m
   rcases List.mem_cons.1 hx with rfl | hx
   ·exact hc.oso _ (by simp)
   exact absurd hx List.not_mem_nil
  have hS := hc.st.sub hbs9 (fun x hx => hx) hos9
  have hsz9 := hc.sz
  rw [hS9z,hsW9] at hsz9
  have hlx3_g9 := hg9
  rw [hS9z,hsW9] at hlx3_g9
  have hux3_g9 := block_lt (hc.st.bx _ hm9).1
  simp only [] at hux3_g9
  clear hbs9 hos9 hc f0 f1 f2 f3 f4 f5 f6 f7 f8 f9 f10 f11 g5_0 g6_5 g6_0 g7_5 g7_0 g8_5 g8_0 g10_9 g10_7 g10_5 g10_0 g11_5 g11_0
  clear q0m q5m hm9 hg9
  have hz3 := hsz9
  clear hsz9 hS9z hS9 hC9 hsW9
  obtain ⟨⟨k0_0,-⟩,z0⟩ := hS.cz ⟨x3_g9,#[.slice x3_A5 x3_N5 x3_C5],24⟩ (by simp)
  have z0_0 := z0 0
  clear z0
  obtain ⟨⟨k1_0,-⟩,z1⟩ := hS.cz ⟨w2.heap.size,#[.slice yA2 yN2 yC2],24⟩ (by simp)
  have z1_0 := z1 0
  clear z1
  obtain ⟨⟨k2_0,k2_1,k2_2,-⟩,z2⟩ := hS.cz ⟨w.heap.size + 1,#[.bool false,.slice none 0 0,.slice none 0 0],50⟩ (by simp)
  have z2_0 := z2 0
  have z2_1 := z2 1
  have z2_2 := z2 2
  clear z2
  obtain ⟨⟨k3_0,k3_1,k3_2,-⟩,z3⟩ := hS.cz ⟨w.heap.size,#[.bool s,.slice a n cap,.int .i64 z],26⟩ (by simp)
  have z3_0 := z3 0
  have z3_1 := z3 1
  have z3_2 := z3 2
  clear z3
  simp only [] at k0_0 z0_0 k1_0 z1_0 k2_0 z2_0 k2_1 z2_1 k2_2 z2_2 k3_0 z3_0 k3_1 z3_1 k3_2 z3_2
  go_wp2
  have u1 := hS.cellAt (x := ⟨w.heap.size + 1,#[.bool false,.slice none 0 0,.slice none 0 0],50⟩) (by simp) 0 (.bool false) rfl
  have y1 := hS.frozen (x := ⟨w.heap.size + 1,#[.bool false,.slice none 0 0,.slice none 0 0],50⟩) (by simp) 0
  simp only [] at u1 y1
  replace hS := hS.put (x := ⟨w.heap.size + 1,#[.bool false,.slice none 0 0,.slice none 0 0],50⟩) (by simp) (by simp only []; omega) 0 (.bool s) (by simp) [⟨w.heap.size + 1,#[.bool s,.slice none 0 0,.slice none 0 0],50⟩,⟨x3_g9,#[.slice x3_A5 x3_N5 x3_C5],24⟩,⟨w2.heap.size,#[.slice yA2 yN2 yC2],24⟩,⟨w.heap.size,#[.bool s,.slice a n cap,.int .i64 z],26⟩] (by intro y hy; rcases List.mem_cons.1 hy with rfl | hy; exact Or.inl rfl; rcases List.mem_cons.1 hy with rfl | hy; exact Or.inr ⟨by simp,by simp only []; omega⟩; rcases List.mem_cons.1 hy with rfl | hy; exact Or.inr ⟨by simp,by simp only []; omega⟩; rcases List.mem_cons.1 hy with rfl | hy; exact Or.inr ⟨by simp,by simp only []; omega⟩; exact absurd hy List.not_mem_nil)
  have u2 := hS.cellAt (x := ⟨w.heap.size + 1,#[.bool s,.slice none 0 0,.slice none 0 0],50⟩) (by simp) 1 (.slice none 0 0) rfl
  have y2 := hS.frozen (x := ⟨w.heap.size + 1,#[.bool s,.slice none 0 0,.slice none 0 0],50⟩) (by simp) 1
  simp only [] at u2 y2
  replace hS := hS.put (x := ⟨w.heap.size + 1,#[.bool s,.slice none 0 0,.slice none 0 0],50⟩) (by simp) (by simp only []; omega) 1 (.slice yA2 yN2 yC2) (by simp) [⟨w.heap.size + 1,#[.bool s,.slice yA2 yN2 yC2,.slice none 0 0],50⟩,⟨x3_g9,#[.slice x3_A5 x3_N5 x3_C5],24⟩,⟨w2.heap.size,#[.slice yA2 yN2 yC2],24⟩,⟨w.heap.size,#[.bool s,.slice a n cap,.int .i64 z],26⟩] (by intro y hy; rcases List.mem_cons.1 hy with rfl | hy; exact Or.inl rfl; rcases List.mem_cons.1 hy with rfl | hy; exact Or.inr ⟨by simp,by simp only []; omega⟩; rcases List.mem_cons.1 hy with rfl | hy; exact Or.inr ⟨by simp,by simp only []; omega⟩; rcases List.mem_cons.1 hy with rfl | hy; exact Or.inr ⟨by simp,by simp only []; omega⟩; exact absurd hy List.not_mem_nil)
  have u3 := hS.cellAt (x := ⟨w.heap.size + 1,#[.bool s,.slice yA2 yN2 yC2,.slice none 0 0],50⟩) (by simp) 2 (.slice none 0 0) rfl
  have y3 := hS.frozen (x := ⟨w.heap.size + 1,#[.bool s,.slice yA2 yN2 yC2,.slice none 0 0],50⟩) (by simp) 2
  simp only [] at u3 y3
  replace hS := hS.put (x := ⟨w.heap.size + 1,#[.bool s,.slice yA2 yN2 yC2,.slice none 0 0],50⟩) (by simp) (by simp only []; omega) 2 (.slice x3_A5 x3_N5 x3_C5) (by simp) [⟨w.heap.size + 1,#[.bool s,.slice yA2 yN2 yC2,.slice x3_A5 x3_N5 x3_C5],50⟩,⟨x3_g9,#[.slice x3_A5 x3_N5 x3_C5],24⟩,⟨w2.heap.size,#[.slice yA2 yN2 yC2],24⟩,⟨w.heap.size,#[.bool s,.slice a n cap,.int .i64 z],26⟩] (by intro y hy; rcases List.mem_cons.1 hy with rfl | hy; exact Or.inl rfl; rcases List.mem_cons.1 hy with rfl | hy; exact Or.inr ⟨by simp,by simp only []; omega⟩; rcases List.mem_cons.1 hy with rfl | hy; exact Or.inr ⟨by simp,by simp only []; omega⟩; rcases List.mem_cons.1 hy with rfl | hy; exact Or.inr ⟨by simp,by simp only []; omega⟩; exact absurd hy List.not_mem_nil)
  exact bodyPost_ret (v := .tuple #[.agg #[.bool s,.slice yA2 yN2 yC2,.slice x3_A5 x3_N5 x3_C5],.int .i64 0]) (by simp [results,Tryd.results23,go_sem,k2_0,k2_1,k2_2]) rfl ⟨⟨_,_,_,_,_,_,rfl,hS.ow (yA2,yN2,yC2,V) (by simp),hS.ow (x3_A5,x3_N5,x3_C5,M) (by simp)⟩,hS.fr⟩
 ·simp
 ·exact ⟨⟨false,false,false,false,false,false,false,false,false,false,false,false,undef,undef,undef,undef,undef,undef,undef,undef,undef,undef,.int .i64 0,none,0,0,none,0,0,_,_⟩,rfl,rfl,⟨hC9,nb,nb,nb,nb,nb,nb,nb,nb,nb,nb,nb,nb,nb,nb,nb,nb,nb,nb,nb,nb,nb,nb,nb,nb,nb⟩⟩
structure Xrmany3S where
 (b0 b1 b2 b3 b4 b5 b6 b7 b8 b9 b10 b11 : Bool)
 (v0 v1 v2 v3 v4 v5 v6 v7 v8 v9 v11 : Value)
 (A0 : Option Addr)
 (N0 C0 : Nat)
 (A5 : Option Addr)
 (N5 C5 : Nat)
 bs9 : List En
 os9 : Os
structure Xrmany3R (w : World) (s : Bool) (a : Option Addr) (n cap m : Nat) (z : Int) (i j V M : Nat) (er : Int) (yA2 : Option Addr) (yN2 yC2 : Nat) (w2 : World) (S9 : Nat) (b0 b1 b2 b3 b4 b5 b6 b7 b8 b9 b10 b11 : Bool) (v0 v1 v2 v3 v4 v5 v6 v7 v8 v9 v11 : Value) (A0 : Option Addr) (N0 C0 : Nat) (A5 : Option Addr) (N5 C5 : Nat) (bs9 : List En) (os9 : Os) (w' : World) : Prop where
 hc : Rc w S9 [⟨w2.heap.size,#[.slice yA2 yN2 yC2],24⟩,⟨w.heap.size + 1,#[.bool false,.slice none 0 0,.slice none 0 0],50⟩,⟨w.heap.size,#[.bool s,.slice a n cap,.int .i64 z],26⟩] [(a,n,m)] [(yA2,yN2,yC2,V)] none bs9 os9 w'
 f0 : b0 = true → v0 = .agg #[.slice A0 N0 C0] ∧ (A0,N0,C0,1) ∈ os9
 f1 : b1 = true → v1 = .pointer (some ⟨w.heap.size,2,none⟩)
 f2 : b2 = true → v2 = .int .i64 z
 f3 : b3 = true → v3 = .int .i64 (-z)
 f4 : b4 = true → v4 = .int .i64 j
 f5 : b5 = true → v5 = .tuple #[.agg #[.slice A5 N5 C5],.int .i64 er] ∧ (A5,N5,C5,M) ∈ os9
 f6 : b6 = true → v6 = .tuple #[.agg #[.slice A5 N5 C5],.int .i64 er]
 f7 : b7 = true → v7 = .agg #[.slice A5 N5 C5]
 f8 : b8 = true → v8 = .int .i64 er
 f9 : b9 = true → AlV bs9 S9 v9 24
 f10 : b10 = true → StV bs9 S9 v9 v7 24
 f11 : b11 = true → v11 = .int .i64 er
 g5_0 : b5 = true → b0 = true
 g6_5 : b6 = true → b5 = true
 g6_0 : b6 = true → b0 = true
 g7_5 : b7 = true → b5 = true
 g7_0 : b7 = true → b0 = true
 g8_5 : b8 = true → b5 = true
 g8_0 : b8 = true → b0 = true
 g10_9 : b10 = true → b9 = true
 g10_7 : b10 = true → b7 = true
 g10_5 : b10 = true → b5 = true
 g10_0 : b10 = true → b0 = true
 g11_5 : b11 = true → b5 = true
 g11_0 : b11 = true → b0 = true
def Xrmany3I (w : World) (s : Bool) (a : Option Addr) (n cap m : Nat) (z : Int) (i j V M : Nat) (er : Int) (yA2 : Option Addr) (yN2 yC2 : Nat) (w2 : World) (S9 : Nat) (l : Array Bool) (act : Act) (w' : World) : Xrmany3S → Prop
 | ⟨b0,b1,b2,b3,b4,b5,b6,b7,b8,b9,b10,b11,v0,v1,v2,v3,v4,v5,v6,v7,v8,v9,v11,A0,N0,C0,A5,N5,C5,bs9,os9⟩ => l = #[b0,b1,b2,b3,b4,b5,b6,b7,b8,b9,b10,b11] ∧ act = { tmps := #[.agg #[.bool s,.slice a n cap,.int .i64 z],.pointer (some ⟨w.heap.size,0,none⟩),.pointer (some ⟨w.heap.size + 1,0,none⟩),.int .i64 0,.int .i64 0,.pointer (some ⟨w2.heap.size,0,none⟩),v11,v9,.agg #[.bool s,.slice a n cap,.int .i64 z],.int .i64 0,.int .i64 0,.bool false,undef,undef,.tuple #[.agg #[.slice yA2 yN2 yC2],.int .i64 0],.pointer (some ⟨w.heap.size,1,none⟩),.agg #[.slice a n cap],.pointer (some ⟨w.heap.size,2,none⟩),.int .i64 z,.int .i64 i,.tuple #[.agg #[.slice yA2 yN2 yC2],.int .i64 0],.agg #[.slice yA2 yN2 yC2],.int .i64 0,.int .i64 0,.bool false,undef,undef,v6,v0,v1,v2,v3,v4,v5,v7,v8,undef,undef,undef,undef,undef,undef,undef,undef,undef],defers := [] } ∧ Xrmany3R w s a n cap m z i j V M er yA2 yN2 yC2 w2 S9 b0 b1 b2 b3 b4 b5 b6 b7 b8 b9 b10 b11 v0 v1 v2 v3 v4 v5 v6 v7 v8 v9 v11 A0 N0 C0 A5 N5 C5 bs9 os9 w'
set_option maxRecDepth 20000 in
set_option maxHeartbeats 4000000 in
theorem xr_many (w : World) (s : Bool) (a : Option Addr) (n cap m : Nat) (z : Int) (i j V M : Nat) (er : Int) (h : Num w a n m) (hx : -1073741824 ≤ z ∧ z ≤ 1073741824) (hi : max z 0 = (i : Int)) (hj : max (-z) 0 = (j : Int)) (her : (er != 0) = true) (HC : Hid (∀ (W : World) (A : Option Addr) (N C : Nat),Num W A N m → Calls Tryd.prog 29 #[.agg #[.bool s,.slice A N C,.int .i64 z]] W fun e w' => e = .returned (.int .i64 0) ∧ Below W.heap.size W w')) (HU : Hid (∀ (W : World) (A : Option Addr) (N C : Nat),Num W A N m → Calls Tryd.prog 59 #[.agg #[.slice A N C],.int .i64 (i : Int)] W fun en W' => (∃ a n c,en = .returned (.tuple #[.agg #[.slice a n c],.int .i64 0]) ∧ Mine W' W.heap.size a n c V) ∧ Below W.heap.size W W')) (HD : Hid (∀ (W : World) (A : Option Addr) (N C : Nat),Num W A N 1 → Calls Tryd.prog 59 #[.agg #[.slice A N C],.int .i64 (j : Int)] W fun en W' => (∃ a n c,en = .returned (.tuple #[.agg #[.slice a n c],.int .i64 er]) ∧ Mine W' W.heap.size a n c M) ∧ Below W.heap.size W W')) :
  Calls Tryd.prog 23 #[.agg #[.bool s,.slice a n cap,.int .i64 z]] w fun en w' => en = .returned (.tuple #[.agg #[.bool false,.slice none 0 0,.slice none 0 0],.int .i64 er]) ∧ Below w.heap.size w w' := by
 have hS := Rs.begin w
 replace hS := hS.num h
 replace hS := hS.alloc #[.bool s,.slice a n cap,.int .i64 z] 26
 try simp only [World.size_alloc] at hS
 replace hS := hS.alloc #[.bool false,.slice none 0 0,.slice none 0 0] 50
 try simp only [World.size_alloc] at hS
 go_enter Tryd.func23,Tryd.ntmps23
 go_wp2_with fail
 refine (unhide HC _ _ _ _ (hS.nm (a,n,m) (by simp))).mono ?_
 rintro en w1 ⟨rfl,hb9⟩
 have hz1 := hb9.size
 replace hS := hS.kept hb9
 clear hb9
 simp only [World.size_alloc] at hz1
 obtain ⟨⟨k0_0,k0_1,k0_2,-⟩,-⟩ := hS.cz ⟨w.heap.size,#[.bool s,.slice a n cap,.int .i64 z],26⟩ (by simp)
 simp only [] at k0_0 k0_1 k0_2
 go_wp2_with fail
 clear k0_0 k0_1 k0_2
 try rw [hi]
 refine (W_oft hS (unhide HU _ _ _ _ (hS.nm (a,n,m) (by simp)))).mono ?_
 clear hS; rintro en w2 ⟨yA2,yN2,yC2,rfl,hS,hz2⟩
 replace hS := hS.alloc #[.slice yA2 yN2 yC2] 24
 try simp only [World.size_alloc] at hS
 go_wp2_with fail
 refine wp_region_any (by kernel_rfl) ?_
 change wpAny _ _ _ _ _ _ _ (World.drew _)
 have hS9 := hS.drew
 have hsW9 : (World.drew (w2.alloc (.cells #[.slice yA2 yN2 yC2] 24))).heap.size = w2.heap.size + 1 := by first | rfl | simp
 generalize World.drew (w2.alloc (.cells #[.slice yA2 yN2 yC2] 24)) = Wd at hS9 hsW9 ⊢
 obtain ⟨S9,hS9z⟩ : ∃ x,x = Wd.heap.size := ⟨_,rfl⟩
 have hC9 := Rc.start (bs := [⟨w2.heap.size,#[.slice yA2 yN2 yC2],24⟩,⟨w.heap.size + 1,#[.bool false,.slice none 0 0,.slice none 0 0],50⟩,⟨w.heap.size,#[.bool s,.slice a n cap,.int .i64 z],26⟩]) hS9 (by simp)
 rw [← hS9z] at hC9
 refine wpAny_inv (fun l act w' => ∃ σ,Xrmany3I w s a n cap m z i j V M er yA2 yN2 yC2 w2 S9 l act w' σ) ?_ ?_ _ _ _ _ ?_ ?_
 ·intro l act w' i9 hI9 hi9 hl9
  have hin9 : i9 < 12 := by
   by_cases h : i9 < 12
   ·exact h
   ·obtain ⟨⟨⟩,rfl,_⟩ := hI9
    rw [Array.getElem?_eq_none (by simp; omega)] at hl9; cases hl9
  have hcase : i9 = 0 ∨ i9 = 1 ∨ i9 = 2 ∨ i9 = 3 ∨ i9 = 4 ∨ i9 = 5 ∨ i9 = 6 ∨ i9 = 7 ∨ i9 = 8 ∨ i9 = 9 ∨ i9 = 10 ∨ i9 = 11 := by omega
  clear hin9
  obtain ⟨⟨b0,b1,b2,b3,b4,b5,b6,b7,b8,b9,b10,b11,v0,v1,v2,v3,v4,v5,v6,v7,v8,v9,v11,A0,N0,C0,A5,N5,C5,bs9,os9⟩,rfl,rfl,hR⟩ := hI9
  rcases hcase with rfl | rfl | rfl | rfl | rfl | rfl | rfl | rfl | rfl | rfl | rfl | rfl
  ·obtain rfl : b0 = false := by simpa using hl9
   clear hl9
   clear hi9
   have hc := hR.hc
   have HR := hide hR
   clear hR
   refine wpOp_step rfl (fun K hK => ?_)
   go_simp
   go_wp2_with fail
   refine (W_of hc.st 1 (by omega)).mono ?_
   rintro en w9 ⟨a9,n9,c9,rfl,hs9,hz9⟩
   have hR := unhide HR
   exact hK _ _ ⟨⟨_,_,_,_,_,_,_,_,_,_,_,_,_,_,_,_,_,_,_,_,_,_,_,_,_,_,A5,N5,C5,_,_⟩,rfl,rfl,{ hR with hc := (hc.call hs9 hz9 (fun y hy => List.mem_cons_of_mem _ hy)),f0 := (fun _ => ⟨rfl,List.mem_cons_self ..⟩),f5 := (fun h => Bool.noConfusion (hR.g5_0 h)),f6 := (fun h => Bool.noConfusion (hR.g6_0 h)),f7 := (fun h => Bool.noConfusion (hR.g7_0 h)),f8 := (fun h => Bool.noConfusion (hR.g8_0 h)),f10 := (fun h => Bool.noConfusion (hR.g10_0 h)),f11 := (fun h => Bool.noConfusion (hR.g11_0 h)),g5_0 := (fun _ => rfl),g6_0 := (fun _ => rfl),g7_0 := (fun _ => rfl),g8_0 := (fun _ => rfl),g10_0 := (fun _ => rfl),g11_0 := (fun _ => rfl) }⟩
  ·obtain rfl : b1 = false := by simpa using hl9
   clear hl9
   clear hi9
   have hc := hR.hc
   refine wpOp_step rfl (fun K hK => ?_)
   go_simp
   exact hK _ _ ⟨⟨_,_,_,_,_,_,_,_,_,_,_,_,_,_,_,_,_,_,_,_,_,_,_,A0,N0,C0,A5,N5,C5,_,_⟩,rfl,rfl,{ hR with hc := hc,f1 := (fun _ => rfl) }⟩
  ·obtain rfl : b2 = false := by simpa using hl9
   clear hl9
   obtain ⟨o9,ho9,hd9⟩ := (mem_ready.1 hi9).2
   cases ho9
   have e1 : b1 = true := hd9 ⟨1,.data⟩ (by simp) rfl
   clear hd9
   subst e1
   clear hi9
   have h9 := hR.f1 rfl
   subst h9
   have hc := hR.hc
   have c9_0 := hc.st.cellAt (hc.old ⟨w.heap.size,#[.bool s,.slice a n cap,.int .i64 z],26⟩ (by simp)).1 2 (.int .i64 z) rfl
   simp only [] at c9_0
   refine wpOp_step rfl (fun K hK => ?_)
   go_simp
   exact hK _ _ ⟨⟨_,_,_,_,_,_,_,_,_,_,_,_,_,_,_,_,_,_,_,_,_,_,_,A0,N0,C0,A5,N5,C5,_,_⟩,rfl,rfl,{ hR with hc := hc,f2 := (fun _ => rfl) }⟩
  ·obtain rfl : b3 = false := by simpa using hl9
   clear hl9
   obtain ⟨o9,ho9,hd9⟩ := (mem_ready.1 hi9).2
   cases ho9
   have e2 : b2 = true := hd9 ⟨2,.data⟩ (by simp) rfl
   clear hd9
   subst e2
   clear hi9
   have h9 := hR.f2 rfl
   subst h9
   have hc := hR.hc
   refine wpOp_step rfl (fun K hK => ?_)
   go_simp
   exact hK _ _ ⟨⟨_,_,_,_,_,_,_,_,_,_,_,_,_,_,_,_,_,_,_,_,_,_,_,A0,N0,C0,A5,N5,C5,_,_⟩,rfl,rfl,{ hR with hc := hc,f3 := (fun _ => by first | rfl | (show Value.int _ _ = Value.int _ _; congr 1; rw [IntKind.wrap_i64]; omega)) }⟩
  ·obtain rfl : b4 = false := by simpa using hl9
   clear hl9
   obtain ⟨o9,ho9,hd9⟩ := (mem_ready.1 hi9).2
   cases ho9
   have e3 : b3 = true := hd9 ⟨3,.data⟩ (by simp) rfl
   clear hd9
   subst e3
   clear hi9
   have h9 := hR.f3 rfl
   subst h9
   have hc := hR.hc
   refine wpOp_step rfl (fun K hK => ?_)
   go_simp
   exact hK _ _ ⟨⟨_,_,_,_,_,_,_,_,_,_,_,_,_,_,_,_,_,_,_,_,_,_,_,A0,N0,C0,A5,N5,C5,_,_⟩,rfl,rfl,{ hR with hc := hc,f4 := (fun _ => by first | rfl | (rw [hj]) | simp [hj] | (congr 1)) }⟩
  ·obtain rfl : b5 = false := by simpa using hl9
   clear hl9
   obtain ⟨o9,ho9,hd9⟩ := (mem_ready.1 hi9).2
   cases ho9
   have e0 : b0 = true := hd9 ⟨0,.data⟩ (by simp) rfl
   have e4 : b4 = true := hd9 ⟨4,.data⟩ (by simp) rfl
   clear hd9
   subst e0 e4
   clear hi9
   have q0 := hR.f0 rfl
   obtain ⟨h9,q0m⟩ := q0
   subst h9
   have h9 := hR.f4 rfl
   subst h9
   have hc := hR.hc
   have HR := hide hR
   clear hR
   refine wpOp_step rfl (fun K hK => ?_)
   go_simp
   go_wp2_with fail
   refine (W_oft hc.st (unhide HD _ _ _ _ (hc.st.ow _ q0m).num)).mono ?_
   rintro en w9 ⟨a9,n9,c9,rfl,hs9,hz9⟩
   have hR := unhide HR
   exact hK _ _ ⟨⟨_,_,_,_,_,_,_,_,_,_,_,_,_,_,_,_,_,_,_,_,_,_,_,A0,N0,C0,_,_,_,_,_⟩,rfl,rfl,{ hR with hc := (hc.call hs9 hz9 (fun y hy => List.mem_cons_of_mem _ hy)),f0 := (fun h => ⟨(hR.f0 h).1,List.mem_cons_of_mem _ (hR.f0 h).2⟩),f5 := (fun _ => ⟨rfl,List.mem_cons_self ..⟩),f6 := (fun h => Bool.noConfusion (hR.g6_5 h)),f7 := (fun h => Bool.noConfusion (hR.g7_5 h)),f8 := (fun h => Bool.noConfusion (hR.g8_5 h)),f10 := (fun h => Bool.noConfusion (hR.g10_5 h)),f11 := (fun h => Bool.noConfusion (hR.g11_5 h)),g5_0 := (fun _ => rfl),g6_5 := (fun _ => rfl),g7_5 := (fun _ => rfl),g8_5 := (fun _ => rfl),g10_5 := (fun _ => rfl),g11_5 := (fun _ => rfl) }⟩
  ·obtain rfl : b6 = false := by simpa using hl9
   clear hl9
   obtain ⟨o9,ho9,hd9⟩ := (mem_ready.1 hi9).2
   cases ho9
   have e5 : b5 = true := hd9 ⟨5,.data⟩ (by simp) rfl
   clear hd9
   subst e5
   clear hi9
   have q5 := hR.f5 rfl
   obtain ⟨h9,q5m⟩ := q5
   subst h9
   have hc := hR.hc
   refine wpOp_step rfl (fun K hK => ?_)
   go_simp
   exact hK _ _ ⟨⟨_,_,_,_,_,_,_,_,_,_,_,_,_,_,_,_,_,_,_,_,_,_,_,A0,N0,C0,A5,N5,C5,_,_⟩,rfl,rfl,{ hR with hc := hc,f6 := (fun _ => rfl),g6_5 := (fun _ => rfl),g6_0 := (fun _ => hR.g5_0 rfl) }⟩
  ·obtain rfl : b7 = false := by simpa using hl9
   clear hl9
   obtain ⟨o9,ho9,hd9⟩ := (mem_ready.1 hi9).2
   cases ho9
   have e6 : b6 = true := hd9 ⟨6,.data⟩ (by simp) rfl
   clear hd9
   subst e6
   clear hi9
   obtain rfl : b5 = true := hR.g6_5 rfl
   have q5 := hR.f5 rfl
   obtain ⟨h9,q5m⟩ := q5
   subst h9
   obtain rfl : b0 = true := hR.g6_0 rfl
   have q0 := hR.f0 rfl
   obtain ⟨h9,q0m⟩ := q0
   subst h9
   have h9 := hR.f6 rfl
   subst h9
   have hc := hR.hc
   refine wpOp_step rfl (fun K hK => ?_)
   go_simp
   exact hK _ _ ⟨⟨_,_,_,_,_,_,_,_,_,_,_,_,_,_,_,_,_,_,_,_,_,_,_,A0,N0,C0,A5,N5,C5,_,_⟩,rfl,rfl,{ hR with hc := hc,f7 := (fun _ => rfl),f10 := (fun h => Bool.noConfusion (hR.g10_7 h)),g7_5 := (fun _ => rfl),g7_0 := (fun _ => rfl),g10_7 := (fun _ => rfl) }⟩
  ·obtain rfl : b8 = false := by simpa using hl9
   clear hl9
   obtain ⟨o9,ho9,hd9⟩ := (mem_ready.1 hi9).2
   cases ho9
   have e6 : b6 = true := hd9 ⟨6,.data⟩ (by simp) rfl
   clear hd9
   subst e6
   clear hi9
   obtain rfl : b5 = true := hR.g6_5 rfl
   have q5 := hR.f5 rfl
   obtain ⟨h9,q5m⟩ := q5
   subst h9
   obtain rfl : b0 = true := hR.g6_0 rfl
   have q0 := hR.f0 rfl
   obtain ⟨h9,q0m⟩ := q0
   subst h9
   have h9 := hR.f6 rfl
   subst h9
   have hc := hR.hc
   refine wpOp_step rfl (fun K hK => ?_)
   go_simp
   exact hK _ _ ⟨⟨_,_,_,_,_,_,_,_,_,_,_,_,_,_,_,_,_,_,_,_,_,_,_,A0,N0,C0,A5,N5,C5,_,_⟩,rfl,rfl,{ hR with hc := hc,f8 := (fun _ => rfl),g8_5 := (fun _ => rfl),g8_0 := (fun _ => rfl) }⟩
  ·obtain rfl : b9 = false := by simpa using hl9
   clear hl9
   clear hi9
   have hc := hR.hc
   refine wpOp_step rfl (fun K hK => ?_)
   go_simp
   exact hK _ _ ⟨⟨_,_,_,_,_,_,_,_,_,_,_,_,_,_,_,_,_,_,_,_,_,_,_,A0,N0,C0,A5,N5,C5,_,_⟩,rfl,rfl,{ hR with hc := (hc.alloc #[.slice none 0 0] 24),f9 := (fun _ => AlV.self rfl hc.sz),f10 := (fun h => Bool.noConfusion (hR.g10_9 h)),g10_9 := (fun _ => rfl) }⟩
  ·obtain rfl : b10 = false := by simpa using hl9
   clear hl9
   obtain ⟨o9,ho9,hd9⟩ := (mem_ready.1 hi9).2
   cases ho9
   have e7 : b7 = true := hd9 ⟨7,.data⟩ (by simp) rfl
   have e9 : b9 = true := hd9 ⟨9,.data⟩ (by simp) rfl
   clear hd9
   subst e7 e9
   clear hi9
   obtain rfl : b5 = true := hR.g7_5 rfl
   have q5 := hR.f5 rfl
   obtain ⟨h9,q5m⟩ := q5
   subst h9
   obtain rfl : b0 = true := hR.g7_0 rfl
   have q0 := hR.f0 rfl
   obtain ⟨h9,q0m⟩ := q0
   subst h9
   have h9 := hR.f7 rfl
   subst h9
   have hc := hR.hc
   obtain ⟨g9,s9,h9,hg9,hm9⟩ := hR.f9 rfl
   subst h9
   have fz9 := hc.st.frozen hm9 0
   have cz9 := hc.st.cellAt hm9 0 s9 rfl
   simp only [] at fz9 cz9
   have hn9 : ∀ x,x ∈ ([⟨w2.heap.size,#[.slice yA2 yN2 yC2],24⟩,⟨w.heap.size + 1,#[.bool false,.slice none 0 0,.slice none 0 0],50⟩,⟨w.heap.size,#[.bool s,.slice a n cap,.int .i64 z],26⟩] : List En) → x.b ≠ g9 := fun x hx => by have := (hc.old x hx).2; omega
   refine wpOp_step rfl (fun K hK => ?_)
   go_simp
   exact hK _ _ ⟨⟨_,_,_,_,_,_,_,_,_,_,_,_,_,_,_,_,_,_,_,_,_,_,_,A0,N0,C0,A5,N5,C5,_,_⟩,rfl,rfl,{ hR with hc := (hc.store hm9 (by have := hc.w0s; omega) hn9 0 (.slice A5 N5 C5) (by simp)),f9 := (fun _ => AlV.self rfl hg9),f10 := (fun _ => ⟨g9,_,rfl,hg9,rfl,List.mem_cons_self ..⟩),g10_9 := (fun _ => rfl),g10_7 := (fun _ => rfl),g10_5 := (fun _ => rfl),g10_0 := (fun _ => rfl) }⟩
  ·obtain rfl : b11 = false := by simpa using hl9
   clear hl9
   obtain ⟨o9,ho9,hd9⟩ := (mem_ready.1 hi9).2
   cases ho9
   have e8 : b8 = true := hd9 ⟨8,.data⟩ (by simp) rfl
   clear hd9
   subst e8
   clear hi9
   obtain rfl : b5 = true := hR.g8_5 rfl
   have q5 := hR.f5 rfl
   obtain ⟨h9,q5m⟩ := q5
   subst h9
   obtain rfl : b0 = true := hR.g8_0 rfl
   have q0 := hR.f0 rfl
   obtain ⟨h9,q0m⟩ := q0
   subst h9
   have h9 := hR.f8 rfl
   subst h9
   have hc := hR.hc
   refine wpOp_step rfl (fun K hK => ?_)
   go_simp
   exact hK _ _ ⟨⟨_,_,_,_,_,_,_,_,_,_,_,_,_,_,_,_,_,_,_,_,_,_,_,A0,N0,C0,A5,N5,C5,_,_⟩,rfl,rfl,{ hR with hc := hc,f11 := (fun _ => rfl),g11_5 := (fun _ => rfl),g11_0 := (fun _ => rfl) }⟩
 ·rintro l act Wq3 ⟨⟨b0,b1,b2,b3,b4,b5,b6,b7,b8,b9,b10,b11,v0,v1,v2,v3,v4,v5,v6,v7,v8,v9,v11,x3_A0,x3_N0,x3_C0,x3_A5,x3_N5,x3_C5,bs9,os9⟩,rfl,rfl,hR⟩ hr9
  obtain ⟨hc,f0,f1,f2,f3,f4,f5,f6,f7,f8,f9,f10,f11,g5_0,g6_5,g6_0,g7_5,g7_0,g8_5,g8_0,g10_9,g10_7,g10_5,g10_0,g11_5,g11_0⟩ := hR
  have eall := all_done hr9 (by kernel_rfl) rfl
  obtain rfl : b0 = true := eall 0 (by decide)
  obtain rfl : b1 = true := eall 1 (by decide)
  obtain rfl : b2 = true := eall 2 (by decide)
  obtain rfl : b3 = true := eall 3 (by decide)
  obtain rfl : b4 = true := eall 4 (by decide)
  obtain rfl : b5 = true := eall 5 (by decide)
  obtain rfl : b6 = true := eall 6 (by decide)
  obtain rfl : b7 = true := eall 7 (by decide)
  obtain rfl : b8 = true := eall 8 (by decide)
  obtain rfl : b9 = true := eall 9 (by decide)
  obtain rfl : b10 = true := eall 10 (by decide)
  obtain rfl : b11 = true := eall 11 (by decide)
  clear hr9 eall
  obtain ⟨h9,q0m⟩ := f0 rfl
  subst h9
  have h9 := f1 rfl
  subst h9
  have h9 := f2 rfl
  subst h9
  have h9 := f3 rfl
  subst h9
  have h9 := f4 rfl
  subst h9
  obtain ⟨h9,q5m⟩ := f5 rfl
  subst h9
  have h9 := f6 rfl
  subst h9
  have h9 := f7 rfl
  subst h9
  have h9 := f8 rfl
  subst h9
  obtain ⟨x3_g9,s9,h9,hg9,hs9,hm9⟩ := f10 rfl
  subst h9
  obtain rfl : s9 = .slice x3_A5 x3_N5 x3_C5 := by simpa using hs9.symm
  clear hs9
  have h9 := f11 rfl
  subst h9
  have hbs9 : ∀ x,x ∈ ([⟨x3_g9,#[.slice x3_A5 x3_N5 x3_C5],24⟩,⟨w2.heap.size,#[.slice yA2 yN2 yC2],24⟩,⟨w.heap.size + 1,#[.bool false,.slice none 0 0,.slice none 0 0],50⟩,⟨w.heap.size,#[.bool s,.slice a n cap,.int .i64 z],26⟩] : List En) → x ∈ bs9 := by
   intro x hx
   rcases List.mem_cons.1 hx with rfl | hx
   ·exact hm9
   rcases List.mem_cons.1 hx with rfl | hx
   ·exact (hc.old _ (by simp)).1
   rcases List.mem_cons.1 hx with rfl | hx
   ·exact (hc.old _ (by simp)).1
   rcases List.mem_cons.1 hx with rfl | hx
   ·exact (hc.old _ (by simp)).1
   exact absurd hx List.not_mem_nil
  have hos9 : ∀ x,x ∈ ([(x3_A0,x3_N0,x3_C0,1),(x3_A5,x3_N5,x3_C5,M),(yA2,yN2,yC2,V)] : Os) → x ∈ os9 := by
   intro x hx
   rcases List.mem_cons.1 hx with rfl | hx
   ·exact q0m
   rcases List.mem_cons.1 hx with rfl | hx
   ·exact q5m
   rcases List.mem_cons.1 hx with rfl | hx
   ·exact hc.oso _ (by simp)
   exact absurd hx List.not_mem_nil
  have hS := hc.st.sub hbs9 (fun x hx => hx) hos9
  have hsz9 := hc.sz
  rw [hS9z,hsW9] at hsz9
  have hlx3_g9 := hg9
  rw [hS9z,hsW9] at hlx3_g9
  have hux3_g9 := block_lt (hc.st.bx _ hm9).1
  simp only [] at hux3_g9
  clear hbs9 hos9 hc f0 f1 f2 f3 f4 f5 f6 f7 f8 f9 f10 f11 g5_0 g6_5 g6_0 g7_5 g7_0 g8_5 g8_0 g10_9 g10_7 g10_5 g10_0 g11_5 g11_0
  clear q0m q5m hm9 hg9
  have hz3 := hsz9
  clear hsz9 hS9z hS9 hC9 hsW9
  obtain ⟨⟨k0_0,-⟩,z0⟩ := hS.cz ⟨x3_g9,#[.slice x3_A5 x3_N5 x3_C5],24⟩ (by simp)
  have z0_0 := z0 0
  clear z0
  obtain ⟨⟨k1_0,-⟩,z1⟩ := hS.cz ⟨w2.heap.size,#[.slice yA2 yN2 yC2],24⟩ (by simp)
  have z1_0 := z1 0
  clear z1
  obtain ⟨⟨k2_0,k2_1,k2_2,-⟩,z2⟩ := hS.cz ⟨w.heap.size + 1,#[.bool false,.slice none 0 0,.slice none 0 0],50⟩ (by simp)
  have z2_0 := z2 0
  have z2_1 := z2 1
  have z2_2 := z2 2
  clear z2
  obtain ⟨⟨k3_0,k3_1,k3_2,-⟩,z3⟩ := hS.cz ⟨w.heap.size,#[.bool s,.slice a n cap,.int .i64 z],26⟩ (by simp)
  have z3_0 := z3 0
  have z3_1 := z3 1
  have z3_2 := z3 2
  clear z3
  simp only [] at k0_0 z0_0 k1_0 z1_0 k2_0 z2_0 k2_1 z2_1 k2_2 z2_2 k3_0 z3_0 k3_1 z3_1 k3_2 z3_2
  go_wp2
  have u1 := hS.cellAt (x := ⟨w.heap.size + 1,#[.bool false,.slice none 0 0,.slice none 0 0],50⟩) (by simp) 0 (.bool false) rfl
  have y1 := hS.frozen (x := ⟨w.heap.size + 1,#[.bool false,.slice none 0 0,.slice none 0 0],50⟩) (by simp) 0
  simp only [] at u1 y1
  replace hS := hS.put (x := ⟨w.heap.size + 1,#[.bool false,.slice none 0 0,.slice none 0 0],50⟩) (by simp) (by simp only []; omega) 0 (.bool false) (by simp) [⟨w.heap.size + 1,#[.bool false,.slice none 0 0,.slice none 0 0],50⟩,⟨x3_g9,#[.slice x3_A5 x3_N5 x3_C5],24⟩,⟨w2.heap.size,#[.slice yA2 yN2 yC2],24⟩,⟨w.heap.size,#[.bool s,.slice a n cap,.int .i64 z],26⟩] (by intro y hy; rcases List.mem_cons.1 hy with rfl | hy; exact Or.inl rfl; rcases List.mem_cons.1 hy with rfl | hy; exact Or.inr ⟨by simp,by simp only []; omega⟩; rcases List.mem_cons.1 hy with rfl | hy; exact Or.inr ⟨by simp,by simp only []; omega⟩; rcases List.mem_cons.1 hy with rfl | hy; exact Or.inr ⟨by simp,by simp only []; omega⟩; exact absurd hy List.not_mem_nil)
  have u2 := hS.cellAt (x := ⟨w.heap.size + 1,#[.bool false,.slice none 0 0,.slice none 0 0],50⟩) (by simp) 1 (.slice none 0 0) rfl
  have y2 := hS.frozen (x := ⟨w.heap.size + 1,#[.bool false,.slice none 0 0,.slice none 0 0],50⟩) (by simp) 1
  simp only [] at u2 y2
  replace hS := hS.put (x := ⟨w.heap.size + 1,#[.bool false,.slice none 0 0,.slice none 0 0],50⟩) (by simp) (by simp only []; omega) 1 (.slice none 0 0) (by simp) [⟨w.heap.size + 1,#[.bool false,.slice none 0 0,.slice none 0 0],50⟩,⟨x3_g9,#[.slice x3_A5 x3_N5 x3_C5],24⟩,⟨w2.heap.size,#[.slice yA2 yN2 yC2],24⟩,⟨w.heap.size,#[.bool s,.slice a n cap,.int .i64 z],26⟩] (by intro y hy; rcases List.mem_cons.1 hy with rfl | hy; exact Or.inl rfl; rcases List.mem_cons.1 hy with rfl | hy; exact Or.inr ⟨by simp,by simp only []; omega⟩; rcases List.mem_cons.1 hy with rfl | hy; exact Or.inr ⟨by simp,by simp only []; omega⟩; rcases List.mem_cons.1 hy with rfl | hy; exact Or.inr ⟨by simp,by simp only []; omega⟩; exact absurd hy List.not_mem_nil)
  have u3 := hS.cellAt (x := ⟨w.heap.size + 1,#[.bool false,.slice none 0 0,.slice none 0 0],50⟩) (by simp) 2 (.slice none 0 0) rfl
  have y3 := hS.frozen (x := ⟨w.heap.size + 1,#[.bool false,.slice none 0 0,.slice none 0 0],50⟩) (by simp) 2
  simp only [] at u3 y3
  replace hS := hS.put (x := ⟨w.heap.size + 1,#[.bool false,.slice none 0 0,.slice none 0 0],50⟩) (by simp) (by simp only []; omega) 2 (.slice none 0 0) (by simp) [⟨w.heap.size + 1,#[.bool false,.slice none 0 0,.slice none 0 0],50⟩,⟨x3_g9,#[.slice x3_A5 x3_N5 x3_C5],24⟩,⟨w2.heap.size,#[.slice yA2 yN2 yC2],24⟩,⟨w.heap.size,#[.bool s,.slice a n cap,.int .i64 z],26⟩] (by intro y hy; rcases List.mem_cons.1 hy with rfl | hy; exact Or.inl rfl; rcases List.mem_cons.1 hy with rfl | hy; exact Or.inr ⟨by simp,by simp only []; omega⟩; rcases List.mem_cons.1 hy with rfl | hy; exact Or.inr ⟨by simp,by simp only []; omega⟩; rcases List.mem_cons.1 hy with rfl | hy; exact Or.inr ⟨by simp,by simp only []; omega⟩; exact absurd hy List.not_mem_nil)
  exact bodyPost_ret (v := .tuple #[.agg #[.bool false,.slice none 0 0,.slice none 0 0],.int .i64 er]) (by simp [results,Tryd.results23,go_sem,k2_0,k2_1,k2_2]) rfl ⟨rfl,hS.fr⟩
 ·simp
 ·exact ⟨⟨false,false,false,false,false,false,false,false,false,false,false,false,undef,undef,undef,undef,undef,undef,undef,undef,undef,undef,.int .i64 0,none,0,0,none,0,0,_,_⟩,rfl,rfl,⟨hC9,nb,nb,nb,nb,nb,nb,nb,nb,nb,nb,nb,nb,nb,nb,nb,nb,nb,nb,nb,nb,nb,nb,nb,nb,nb⟩⟩
end Go.Proofs.YtecmcjlgknfnlaaDoor
