/- Of what ExactValuesRow stands on: ExAlive ExDya4. -/
import Derived.Test.YtecmcjlgknfnlaaDoorPat
import Derived.Test.YtecmcjlgknfnlaaDoorPau
import Derived.Test.YtecmcjlgknfnlaaDoorPag
import Derived.Test.YtecmcjlgknfnlaaDoorPan
namespace Go.Proofs.YtecmcjlgknfnlaaDoor
open Go.RowKit
set_option maxHeartbeats 400000 in
theorem dsame_true (a : Option Addr) (n cap m : Nat) (a' : Option Addr) (n' cap' : Nat) (x : Int) (w : World) (h : Num w a n m) (h' : Num w a' n' m) :
  Calls Tryd.prog 32 #[.agg #[.bool true,.slice a n cap,.int .i64 x],.agg #[.bool true,.slice a' n' cap',.int .i64 x]] w fun e w' => e = .returned (.bool true) ∧ Below w.heap.size w w' := by
 have H := hide h
 have H' := hide h'
 clear h h'
 go_enter Tryd.func32,Tryd.ntmps32
 have HC := hide (same_any a a' n n' cap cap' m m _ (((unhide H).alloc (.cells #[.bool true,.slice a n cap,.int .i64 x] 26)).alloc (.cells #[.bool true,.slice a' n' cap',.int .i64 x] 26)) (((unhide H').alloc _).alloc _))
 rw [decide_eq_true (rfl : m = m)] at HC
 go_wp2_with fail
 refine (unhide HC).mono ?_
 rintro e w1 ⟨rfl,hb1⟩
 have hS := (Fs.two w _ _ _ _).kept hb1
 obtain ⟨⟨z1_0_0,z1_0_1,z1_0_2,-⟩,⟨z1_1_0,z1_1_1,z1_1_2,-⟩,-⟩ := hS.cells
 go_wp2
 go_ret
 exact ⟨rfl,hS.fr⟩
set_option maxHeartbeats 400000 in
theorem dsame_false (a : Option Addr) (n cap m : Nat) (a' : Option Addr) (n' cap' : Nat) (x : Int) (w : World) (h : Num w a n m) (h' : Num w a' n' m) :
  Calls Tryd.prog 32 #[.agg #[.bool false,.slice a n cap,.int .i64 x],.agg #[.bool false,.slice a' n' cap',.int .i64 x]] w fun e w' => e = .returned (.bool true) ∧ Below w.heap.size w w' := by
 have H := hide h
 have H' := hide h'
 clear h h'
 go_enter Tryd.func32,Tryd.ntmps32
 have HC := hide (same_any a a' n n' cap cap' m m _ (((unhide H).alloc (.cells #[.bool false,.slice a n cap,.int .i64 x] 26)).alloc (.cells #[.bool false,.slice a' n' cap',.int .i64 x] 26)) (((unhide H').alloc _).alloc _))
 rw [decide_eq_true (rfl : m = m)] at HC
 go_wp2_with fail
 refine (unhide HC).mono ?_
 rintro e w1 ⟨rfl,hb1⟩
 have hS := (Fs.two w _ _ _ _).kept hb1
 obtain ⟨⟨z1_0_0,z1_0_1,z1_0_2,-⟩,⟨z1_1_0,z1_1_1,z1_1_2,-⟩,-⟩ := hS.cells
 go_wp2
 go_ret
 exact ⟨rfl,hS.fr⟩
theorem dsame_any (s : Bool) (a : Option Addr) (n cap m : Nat) (a' : Option Addr) (n' cap' : Nat) (x : Int) (w : World) (h : Num w a n m) (h' : Num w a' n' m) :
  Calls Tryd.prog 32 #[.agg #[.bool s,.slice a n cap,.int .i64 x],.agg #[.bool s,.slice a' n' cap',.int .i64 x]] w fun e w' => e = .returned (.bool true) ∧ Below w.heap.size w w' := by
 cases s
 ·exact dsame_false a n cap m a' n' cap' x w h h'
 ·exact dsame_true a n cap m a' n' cap' x w h h'
end Go.Proofs.YtecmcjlgknfnlaaDoor
namespace Go.Proofs.YtecmcjlgknfnlaaDoor
open Go.RowKit
set_option maxHeartbeats 2000000 in
theorem led_dyadic (p base n : Nat) (vg vw : Value) (gs ws : List Value) (s : Bool) (a b : Option Addr) (na nb ca cb m : Nat) (x e : Int) (w : World) (hL : Led w p base n vg vw gs ws) (hA : Mine w base a na ca m) (hf : ∀ u ∈ gs,ApartV (.slice a na ca) u) (hW : Mine w base b nb cb m) (hb : base ≤ w.heap.size) (hn : n ≤ 1000) :
  Calls Tryd.prog 12 #[.pointer (some ⟨p,0,none⟩),.agg #[.bool s,.slice a na ca,.int .i64 x],.int .i64 e,.agg #[.bool s,.slice b nb cb,.int .i64 x],.int .i64 e] w
   (LedTo w p base n vg vw gs ws (.slice a na ca) (.slice b nb cb)) := by
 have HA := hide hA
 have HF := hide hf
 have HW := hide hW
 have HL := hide hL
 have ex : (e != e) = false := by simp
 have es : (s != s) = false := by simp
 have ey : (x != x) = false := by simp
 clear hA hf hW hL
 go_enter Tryd.func12,Tryd.ntmps12
 go_wp2_with fail
 refine (dsame_any s a na ca m b nb cb x _ (((unhide HA).num.alloc _).alloc _) (((unhide HW).num.alloc _).alloc _)).mono ?_
 rintro en w1 ⟨rfl,hb1⟩
 have hS := (Fs.two w _ _ _ _).kept hb1
 obtain ⟨⟨z0,z1,z2,-⟩,⟨z3,z4,z5,-⟩,-⟩ := hS.cells
 go_wp2_with fail
 refine (led_adds p base n vg vw gs ws a b na nb ca cb m _ ((unhide HL).kept hS.fr) ((unhide HA).kept hS.fr) (unhide HF) ((unhide HW).kept hS.fr) (Nat.le_trans hb hS.fr.size) hn).mono ?_
 rintro en w2 h2
 have h3 := LedTo.back hb hS.fr h2
 obtain ⟨rfl,h4⟩ := h3
 have H4 := hide h4
 go_wp2
 go_end0
 exact ⟨rfl,unhide H4⟩
end Go.Proofs.YtecmcjlgknfnlaaDoor
