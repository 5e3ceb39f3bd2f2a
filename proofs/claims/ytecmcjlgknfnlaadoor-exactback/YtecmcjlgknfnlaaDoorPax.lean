/- Of what ExactBackRow stands on: RefUpDown ExCheck. -/
import Derived.Test.YtecmcjlgknfnlaaDoorPaw
import Derived.Test.YtecmcjlgknfnlaaDoorPao
import Derived.Test.YtecmcjlgknfnlaaDoorPal
import Derived.Test.YtecmcjlgknfnlaaDoorPaf
import Derived.BigQuiet
import Derived.Test.YtecmcjlgknfnlaaDoorPab
import Derived.Test.YtecmcjlgknfnlaaDoorPah
namespace Go.Proofs.YtecmcjlgknfnlaaDoor
open Go.RowKit
end Go.Proofs.YtecmcjlgknfnlaaDoor
namespace Go.Proofs.YtecmcjlgknfnlaaDoor
open Go.RowKit
def Far (x : Int) : Prop := x < -1073741824 ∨ 1073741824 < x
instance (x : Int) : Decidable (Far x) := by unfold Far; infer_instance
def dck (s : Bool) (xs : List Nat) (x : Int) : Int :=
 if chk xs ≠ 0 then chk xs else if xs.length = 0 then (if s = true ∨ x ≠ 0 then 40 else 0) else if Pl.val xs % 2 = 0 ∨ Far x then 40 else 0
set_option maxHeartbeats 400000 in
theorem isNought_yes (a : Option Addr) (cap : Nat) (w : World)  :
  Calls Tryd.prog 40 #[.agg #[.slice a 0 cap]] w fun e w' => e = .returned (.bool true) ∧ Below w.heap.size w w' := by
 go_enter Tryd.func40,Tryd.ntmps40
 go_wp2
 go_ret
 exact ⟨rfl,(Fs.one w _ _).fr⟩
set_option maxHeartbeats 400000 in
theorem isNought_no (a : Option Addr) (n cap : Nat) (hn : 0 < n) (w : World)  :
  Calls Tryd.prog 40 #[.agg #[.slice a n cap]] w fun e w' => e = .returned (.bool false) ∧ Below w.heap.size w w' := by
 go_enter Tryd.func40,Tryd.ntmps40
 go_wp2
 go_ret
 exact ⟨ret_bool (by simp <;> omega),(Fs.one w _ _).fr⟩
set_option maxHeartbeats 400000 in
theorem beyond_no (x : Int) (hx : -1073741824 ≤ x ∧ x ≤ 1073741824) (w : World)  :
  Calls Tryd.prog 71 #[.int .i64 x] w fun e w' => e = .returned (.bool false) ∧ Below w.heap.size w w' := by
 go_enter Tryd.func71,Tryd.ntmps71
 go_wp2
 go_ret
 exact ⟨ret_bool (by simp <;> omega),(Fs.begin w).fr⟩
set_option maxHeartbeats 400000 in
theorem beyond_below (x : Int) (hx : x < -1073741824) (w : World)  :
  Calls Tryd.prog 71 #[.int .i64 x] w fun e w' => e = .returned (.bool true) ∧ Below w.heap.size w w' := by
 go_enter Tryd.func71,Tryd.ntmps71
 go_wp2
 go_ret
 exact ⟨ret_bool (by simp <;> omega),(Fs.begin w).fr⟩
set_option maxHeartbeats 400000 in
theorem beyond_above (x : Int) (hx : 1073741824 < x) (w : World)  :
  Calls Tryd.prog 71 #[.int .i64 x] w fun e w' => e = .returned (.bool true) ∧ Below w.heap.size w w' := by
 go_enter Tryd.func71,Tryd.ntmps71
 go_wp2
 go_ret
 exact ⟨ret_bool (by simp <;> omega),(Fs.begin w).fr⟩
theorem bit0_odd (a : Option Addr) (n cap m : Nat) (w : World) (h : Num w a n m) (hm : m % 2 = 1) :
  Calls Tryd.prog 70 #[.agg #[.slice a n cap],.int .i64 0] w fun e w' => e = .returned (.tuple #[.bool true,.int .i64 0]) ∧ Below w.heap.size w w' := by
 have := bit_any a n cap m 0 w h (by omega)
 rw [show decide (m / 2 ^ 0 % 2 = 1) = true from by simp [hm]] at this
 exact this
theorem bit0_even (a : Option Addr) (n cap m : Nat) (w : World) (h : Num w a n m) (hm : m % 2 = 0) :
  Calls Tryd.prog 70 #[.agg #[.slice a n cap],.int .i64 0] w fun e w' => e = .returned (.tuple #[.bool false,.int .i64 0]) ∧ Below w.heap.size w w' := by
 have := bit_any a n cap m 0 w h (by omega)
 rw [show decide (m / 2 ^ 0 % 2 = 1) = false from by simp [hm]] at this
 exact this
set_option maxHeartbeats 400000 in
theorem dcheck_bad (s : Bool) (a : Option Addr) (n cap : Nat) (xs : List Nat) (x : Int) (w : World) (hn : xs.length = n) (hbig : n ≤ 9223372036854775807) (hl : Lim w a xs) (hc : chk xs ≠ 0) :
  Calls Tryd.prog 29 #[.agg #[.bool s,.slice a n cap,.int .i64 x]] w fun e w' => e = .returned (.int .i64 (chk xs)) ∧ Below w.heap.size w w' := by
 have hcb : (chk xs != 0) = true := by simpa using hc
 have HL := hide hl
 subst hn
 clear hl hc
 go_enter Tryd.func29,Tryd.ntmps29
 go_wp2_with fail
 refine (check_any a cap xs _ hbig ((unhide HL).alloc _)).mono ?_
 rintro e w1 ⟨rfl,hb1⟩
 have hS := (Fs.one w _ _).kept hb1
 obtain ⟨⟨z1_0_0,z1_0_1,z1_0_2,-⟩,-⟩ := hS.cells
 go_wp2
 go_ret
 exact ⟨rfl,hS.fr⟩
set_option maxHeartbeats 400000 in
theorem dcheck_nil (s : Bool) (a : Option Addr) (cap : Nat) (x : Int) (w : World) (h : Num w a 0 0) :
  Calls Tryd.prog 29 #[.agg #[.bool s,.slice a 0 cap,.int .i64 x]] w fun e w' => e = .returned (.int .i64 (if s = true ∨ x ≠ 0 then 40 else 0)) ∧ Below w.heap.size w w' := by
 have H := hide h
 clear h
 go_enter Tryd.func29,Tryd.ntmps29
 go_wp2_with fail
 refine (check_num a 0 cap 0 _ ((unhide H).kept (gr_alloc _ _))).mono ?_
 rintro e w1 ⟨rfl,hb1⟩
 have hS := (Fs.one w _ _).kept hb1
 obtain ⟨⟨z1_0_0,z1_0_1,z1_0_2,-⟩,-⟩ := hS.cells
 go_wp2_with fail
 refine (isNought_yes a cap _).mono ?_
 rintro e w2 ⟨rfl,hb2⟩
 replace hS := hS.kept hb2
 clear z1_0_0 z1_0_1 z1_0_2
 obtain ⟨⟨z2_0_0,z2_0_1,z2_0_2,-⟩,-⟩ := hS.cells
 by_cases hs : s = true
 ·subst hs
  go_wp2
  go_ret
  exact ⟨by simp,hS.fr⟩
 ·obtain rfl : s = false := by cases s <;> simp_all
  by_cases hx : x = 0
  ·subst hx
   go_wp2
   go_ret
   exact ⟨by simp,hS.fr⟩
  ·go_wp2
   go_ret
   exact ⟨by simp,hS.fr⟩
set_option maxHeartbeats 400000 in
theorem dcheck_even (s : Bool) (a : Option Addr) (n cap m : Nat) (x : Int) (w : World) (h : Num w a n m) (hn : 0 < n) (hm : m % 2 = 0) :
  Calls Tryd.prog 29 #[.agg #[.bool s,.slice a n cap,.int .i64 x]] w fun e w' => e = .returned (.int .i64 40) ∧ Below w.heap.size w w' := by
 have H := hide h
 have HM := hide hm
 clear h hm
 go_enter Tryd.func29,Tryd.ntmps29
 go_wp2_with fail
 refine (check_num a n cap m _ ((unhide H).kept (gr_alloc _ _))).mono ?_
 rintro e w1 ⟨rfl,hb1⟩
 have hS := (Fs.one w _ _).kept hb1
 obtain ⟨⟨z1_0_0,z1_0_1,z1_0_2,-⟩,-⟩ := hS.cells
 go_wp2_with fail
 refine (isNought_no a n cap hn _).mono ?_
 rintro e w2 ⟨rfl,hb2⟩
 replace hS := hS.kept hb2
 clear z1_0_0 z1_0_1 z1_0_2
 obtain ⟨⟨z2_0_0,z2_0_1,z2_0_2,-⟩,-⟩ := hS.cells
 go_wp2_with fail
 refine (bit0_even a n cap m _ ((unhide H).kept hS.fr) (unhide HM)).mono ?_
 rintro e w3 ⟨rfl,hb3⟩
 replace hS := hS.kept hb3
 clear z2_0_0 z2_0_1 z2_0_2
 obtain ⟨⟨z3_0_0,z3_0_1,z3_0_2,-⟩,-⟩ := hS.cells
 go_wp2
 go_ret
 exact ⟨rfl,hS.fr⟩
set_option maxHeartbeats 400000 in
theorem dcheck_below (s : Bool) (a : Option Addr) (n cap m : Nat) (x : Int) (w : World) (h : Num w a n m) (hn : 0 < n) (hm : m % 2 = 1) (hx : x < -1073741824) :
  Calls Tryd.prog 29 #[.agg #[.bool s,.slice a n cap,.int .i64 x]] w fun e w' => e = .returned (.int .i64 40) ∧ Below w.heap.size w w' := by
 have H := hide h
 have HM := hide hm
 clear h hm
 go_enter Tryd.func29,Tryd.ntmps29
 go_wp2_with fail
 refine (check_num a n cap m _ ((unhide H).kept (gr_alloc _ _))).mono ?_
 rintro e w1 ⟨rfl,hb1⟩
 have hS := (Fs.one w _ _).kept hb1
 obtain ⟨⟨z1_0_0,z1_0_1,z1_0_2,-⟩,-⟩ := hS.cells
 go_wp2_with fail
 refine (isNought_no a n cap hn _).mono ?_
 rintro e w2 ⟨rfl,hb2⟩
 replace hS := hS.kept hb2
 clear z1_0_0 z1_0_1 z1_0_2
 obtain ⟨⟨z2_0_0,z2_0_1,z2_0_2,-⟩,-⟩ := hS.cells
 go_wp2_with fail
 refine (bit0_odd a n cap m _ ((unhide H).kept hS.fr) (unhide HM)).mono ?_
 rintro e w3 ⟨rfl,hb3⟩
 replace hS := hS.kept hb3
 clear z2_0_0 z2_0_1 z2_0_2
 obtain ⟨⟨z3_0_0,z3_0_1,z3_0_2,-⟩,-⟩ := hS.cells
 go_wp2_with fail
 refine (beyond_below _ hx _).mono ?_
 rintro e w4 ⟨rfl,hb4⟩
 replace hS := hS.kept hb4
 clear z3_0_0 z3_0_1 z3_0_2
 obtain ⟨⟨z4_0_0,z4_0_1,z4_0_2,-⟩,-⟩ := hS.cells
 go_wp2
 go_ret
 exact ⟨rfl,hS.fr⟩
set_option maxHeartbeats 400000 in
theorem dcheck_above (s : Bool) (a : Option Addr) (n cap m : Nat) (x : Int) (w : World) (h : Num w a n m) (hn : 0 < n) (hm : m % 2 = 1) (hx : 1073741824 < x) :
  Calls Tryd.prog 29 #[.agg #[.bool s,.slice a n cap,.int .i64 x]] w fun e w' => e = .returned (.int .i64 40) ∧ Below w.heap.size w w' := by
 have H := hide h
 have HM := hide hm
 clear h hm
 go_enter Tryd.func29,Tryd.ntmps29
 go_wp2_with fail
 refine (check_num a n cap m _ ((unhide H).kept (gr_alloc _ _))).mono ?_
 rintro e w1 ⟨rfl,hb1⟩
 have hS := (Fs.one w _ _).kept hb1
 obtain ⟨⟨z1_0_0,z1_0_1,z1_0_2,-⟩,-⟩ := hS.cells
 go_wp2_with fail
 refine (isNought_no a n cap hn _).mono ?_
 rintro e w2 ⟨rfl,hb2⟩
 replace hS := hS.kept hb2
 clear z1_0_0 z1_0_1 z1_0_2
 obtain ⟨⟨z2_0_0,z2_0_1,z2_0_2,-⟩,-⟩ := hS.cells
 go_wp2_with fail
 refine (bit0_odd a n cap m _ ((unhide H).kept hS.fr) (unhide HM)).mono ?_
 rintro e w3 ⟨rfl,hb3⟩
 replace hS := hS.kept hb3
 clear z2_0_0 z2_0_1 z2_0_2
 obtain ⟨⟨z3_0_0,z3_0_1,z3_0_2,-⟩,-⟩ := hS.cells
 go_wp2_with fail
 refine (beyond_above _ hx _).mono ?_
 rintro e w4 ⟨rfl,hb4⟩
 replace hS := hS.kept hb4
 clear z3_0_0 z3_0_1 z3_0_2
 obtain ⟨⟨z4_0_0,z4_0_1,z4_0_2,-⟩,-⟩ := hS.cells
 go_wp2
 go_ret
 exact ⟨rfl,hS.fr⟩
set_option maxHeartbeats 400000 in
theorem dcheck_ok (s : Bool) (a : Option Addr) (n cap m : Nat) (x : Int) (w : World) (h : Num w a n m) (hn : 0 < n) (hm : m % 2 = 1) (hx : -1073741824 ≤ x ∧ x ≤ 1073741824) :
  Calls Tryd.prog 29 #[.agg #[.bool s,.slice a n cap,.int .i64 x]] w fun e w' => e = .returned (.int .i64 0) ∧ Below w.heap.size w w' := by
 have H := hide h
 have HM := hide hm
 clear h hm
 go_enter Tryd.func29,Tryd.ntmps29
 go_wp2_with fail
 refine (check_num a n cap m _ ((unhide H).kept (gr_alloc _ _))).mono ?_
 rintro e w1 ⟨rfl,hb1⟩
 have hS := (Fs.one w _ _).kept hb1
 obtain ⟨⟨z1_0_0,z1_0_1,z1_0_2,-⟩,-⟩ := hS.cells
 go_wp2_with fail
 refine (isNought_no a n cap hn _).mono ?_
 rintro e w2 ⟨rfl,hb2⟩
 replace hS := hS.kept hb2
 clear z1_0_0 z1_0_1 z1_0_2
 obtain ⟨⟨z2_0_0,z2_0_1,z2_0_2,-⟩,-⟩ := hS.cells
 go_wp2_with fail
 refine (bit0_odd a n cap m _ ((unhide H).kept hS.fr) (unhide HM)).mono ?_
 rintro e w3 ⟨rfl,hb3⟩
 replace hS := hS.kept hb3
 clear z2_0_0 z2_0_1 z2_0_2
 obtain ⟨⟨z3_0_0,z3_0_1,z3_0_2,-⟩,-⟩ := hS.cells
 go_wp2_with fail
 refine (beyond_no _ hx _).mono ?_
 rintro e w4 ⟨rfl,hb4⟩
 replace hS := hS.kept hb4
 clear z3_0_0 z3_0_1 z3_0_2
 obtain ⟨⟨z4_0_0,z4_0_1,z4_0_2,-⟩,-⟩ := hS.cells
 go_wp2
 go_ret
 exact ⟨rfl,hS.fr⟩
theorem dck_num {w : World} {a : Option Addr} {n : Nat} {xs : List Nat} (hn : xs.length = n) (hl : Lim w a xs) (hw : Pl.Wf xs) (hc : chk xs = 0) : Num w a n (Pl.val xs) := by
 have := chk_zero hc
 exact ⟨xs,hn,hl,hw,this.2,rfl,by omega⟩
theorem dcheck_any (s : Bool) (a : Option Addr) (n cap : Nat) (xs : List Nat) (x : Int) (w : World) (hn : xs.length = n) (hbig : n ≤ 9223372036854775807) (hl : Lim w a xs) (hw : Pl.Wf xs) :
  Calls Tryd.prog 29 #[.agg #[.bool s,.slice a n cap,.int .i64 x]] w fun e w' => e = .returned (.int .i64 (dck s xs x)) ∧ Below w.heap.size w w' := by
 unfold dck
 by_cases hc : chk xs = 0
 ·rw [if_neg (by simpa using hc)]
  have hN := dck_num hn hl hw hc
  by_cases h0 : n = 0
  ·subst h0
   rw [if_pos hn]
   have h1 := hN.zero.1 rfl
   rw [h1] at hN
   exact dcheck_nil s a cap x w hN
  ·rw [if_neg (by omega)]
   rcases Nat.mod_two_eq_zero_or_one (Pl.val xs) with he | ho
   ·rw [if_pos (Or.inl he)]
    exact dcheck_even s a n cap _ x w hN (by omega) he
   ·by_cases hf : Far x
    ·rw [if_pos (Or.inr hf)]
     rcases hf with hf | hf
     ·exact dcheck_below s a n cap _ x w hN (by omega) ho hf
     ·exact dcheck_above s a n cap _ x w hN (by omega) ho hf
    ·rw [if_neg (by rintro (h | h); omega; exact hf h)]
     unfold Far at hf
     exact dcheck_ok s a n cap _ x w hN (by omega) ho (by omega)
 ·rw [if_pos (by simpa using hc)]
  exact dcheck_bad s a n cap xs x w hn hbig hl hc
end Go.Proofs.YtecmcjlgknfnlaaDoor
