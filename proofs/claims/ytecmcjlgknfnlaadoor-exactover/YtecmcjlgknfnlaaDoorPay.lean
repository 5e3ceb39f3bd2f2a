/- Of what ExactOverRow stands on: ExOverW ExOverLaw. -/
import Derived.Test.YtecmcjlgknfnlaaDoorPax
namespace Go.Proofs.YtecmcjlgknfnlaaDoor
open Go.RowKit
set_option maxRecDepth 20000 in
set_option maxHeartbeats 16000000 in
theorem over_all (s : Bool) (a : Option Addr) (n cap m : Nat) (x : Int) (s' : Bool) (a' : Option Addr) (n' cap' m' : Nat) (x' : Int) (s2 : Bool) (a2 : Option Addr) (n2 cap2 m2 : Nat) (x2 : Int) (q1 q2 q3 q5 q6 q7 : Bool) (v1 v2 v3 v5 v6 v7 : Nat) (y1 y2 y3 y5 y6 y7 : Int) (w : World) (hT : Tb w) (hc0 : Hid (∀ W : World,Below w.heap.size w W → Calls Tryd.prog 29 #[.agg #[.bool s,.slice a n cap,.int .i64 x]] W fun e w' => e = .returned (.int .i64 0) ∧ Below W.heap.size W w')) (ha0 : (n : Int) ≤ 200) (hb0_ : x ≤ 3000) (hd0 : -3000 ≤ x) (hc1 : Hid (∀ W : World,Below w.heap.size w W → Calls Tryd.prog 29 #[.agg #[.bool s',.slice a' n' cap',.int .i64 x']] W fun e w' => e = .returned (.int .i64 0) ∧ Below W.heap.size W w')) (ha1 : (n' : Int) ≤ 200) (hb1_ : x' ≤ 3000) (hd1 : -3000 ≤ x') (hc2 : Hid (∀ W : World,Below w.heap.size w W → Calls Tryd.prog 29 #[.agg #[.bool s2,.slice a2 n2 cap2,.int .i64 x2]] W fun e w' => e = .returned (.int .i64 0) ∧ Below W.heap.size W w')) (ha2 : (n2 : Int) ≤ 200) (hb2_ : x2 ≤ 3000) (hd2 : -3000 ≤ x2) (h0 : Num w a n m) (h1 : Num w a' n' m') (h2 : Num w a2 n2 m2) (hs1 : Hid (∀ (W : World) (A : Option Addr) (N C : Nat) (A' : Option Addr) (N' C' : Nat),Num W A N m' → Num W A' N' m2 → Tb W → Calls Tryd.prog 30 #[.agg #[.bool s',.slice A N C,.int .i64 x'],.agg #[.bool s2,.slice A' N' C',.int .i64 x2]] W fun e w' => (∃ A N C,e = .returned (.tuple #[.agg #[.bool q1,.slice A N C,.int .i64 y1],.int .i64 0]) ∧ Num w' A N v1) ∧ Below W.heap.size W w')) (hs2 : Hid (∀ (W : World) (A : Option Addr) (N C : Nat) (A' : Option Addr) (N' C' : Nat),Num W A N m → Num W A' N' m' → Tb W → Calls Tryd.prog 30 #[.agg #[.bool s,.slice A N C,.int .i64 x],.agg #[.bool s',.slice A' N' C',.int .i64 x']] W fun e w' => (∃ A N C,e = .returned (.tuple #[.agg #[.bool q2,.slice A N C,.int .i64 y2],.int .i64 0]) ∧ Num w' A N v2) ∧ Below W.heap.size W w')) (hs3 : Hid (∀ (W : World) (A : Option Addr) (N C : Nat) (A' : Option Addr) (N' C' : Nat),Num W A N v2 → Num W A' N' m2 → Tb W → Calls Tryd.prog 30 #[.agg #[.bool q2,.slice A N C,.int .i64 y2],.agg #[.bool s2,.slice A' N' C',.int .i64 x2]] W fun e w' => (∃ A N C,e = .returned (.tuple #[.agg #[.bool q3,.slice A N C,.int .i64 y3],.int .i64 0]) ∧ Num w' A N v3) ∧ Below W.heap.size W w')) (hs4 : Hid (∀ (W : World) (A : Option Addr) (N C : Nat) (A' : Option Addr) (N' C' : Nat),Num W A N m → Num W A' N' v1 → Tb W → Calls Tryd.prog 30 #[.agg #[.bool s,.slice A N C,.int .i64 x],.agg #[.bool q1,.slice A' N' C',.int .i64 y1]] W fun e w' => (∃ A N C,e = .returned (.tuple #[.agg #[.bool q3,.slice A N C,.int .i64 y3],.int .i64 0]) ∧ Num w' A N v3) ∧ Below W.heap.size W w')) (hs5 : Hid (∀ (W : World) (A : Option Addr) (N C : Nat) (A' : Option Addr) (N' C' : Nat),Num W A N m → Num W A' N' v1 → Calls Tryd.prog 31 #[.agg #[.bool s,.slice A N C,.int .i64 x],.agg #[.bool q1,.slice A' N' C',.int .i64 y1]] W fun e w' => (∃ A N C,e = .returned (.tuple #[.agg #[.bool q5,.slice A N C,.int .i64 y5],.int .i64 0]) ∧ Num w' A N v5) ∧ Below W.heap.size W w')) (hs6 : Hid (∀ (W : World) (A : Option Addr) (N C : Nat) (A' : Option Addr) (N' C' : Nat),Num W A N m → Num W A' N' m' → Calls Tryd.prog 31 #[.agg #[.bool s,.slice A N C,.int .i64 x],.agg #[.bool s',.slice A' N' C',.int .i64 x']] W fun e w' => (∃ A N C,e = .returned (.tuple #[.agg #[.bool q6,.slice A N C,.int .i64 y6],.int .i64 0]) ∧ Num w' A N v6) ∧ Below W.heap.size W w')) (hs7 : Hid (∀ (W : World) (A : Option Addr) (N C : Nat) (A' : Option Addr) (N' C' : Nat),Num W A N m → Num W A' N' m2 → Calls Tryd.prog 31 #[.agg #[.bool s,.slice A N C,.int .i64 x],.agg #[.bool s2,.slice A' N' C',.int .i64 x2]] W fun e w' => (∃ A N C,e = .returned (.tuple #[.agg #[.bool q7,.slice A N C,.int .i64 y7],.int .i64 0]) ∧ Num w' A N v7) ∧ Below W.heap.size W w')) (hs8 : Hid (∀ (W : World) (A : Option Addr) (N C : Nat) (A' : Option Addr) (N' C' : Nat),Num W A N v6 → Num W A' N' v7 → Tb W → Calls Tryd.prog 30 #[.agg #[.bool q6,.slice A N C,.int .i64 y6],.agg #[.bool q7,.slice A' N' C',.int .i64 y7]] W fun e w' => (∃ A N C,e = .returned (.tuple #[.agg #[.bool q5,.slice A N C,.int .i64 y5],.int .i64 0]) ∧ Num w' A N v5) ∧ Below W.heap.size W w')) :
  Calls Tryd.prog 7 #[.agg #[.bool s,.slice a n cap,.int .i64 x],.agg #[.bool s',.slice a' n' cap',.int .i64 x'],.agg #[.bool s2,.slice a2 n2 cap2,.int .i64 x2]] w fun e w' => e = .returned (.bool true) ∧ Below w.heap.size w w' := by
 have HT := hide hT
 have H0 := hide h0
 have H1 := hide h1
 have H2 := hide h2
 clear hT h0 h1 h2
 go_enter Tryd.func7,Tryd.ntmps7
 go_wp2_with fail
 refine (alive_any _ ((((unhide HT).alloc _).alloc _).alloc _)).mono ?_
 rintro e w1 ⟨rfl,hb1⟩
 have hS := (Fs.three w _ _ _ _ _ _).kept hb1
 obtain ⟨⟨z1_0_0,z1_0_1,z1_0_2,-⟩,⟨z1_1_0,z1_1_1,z1_1_2,-⟩,⟨z1_2_0,z1_2_1,z1_2_2,-⟩,-⟩ := hS.cells
 replace H0 := hide ((unhide H0).kept hS.fr)
 replace H1 := hide ((unhide H1).kept hS.fr)
 replace H2 := hide ((unhide H2).kept hS.fr)
 go_wp2_with fail
 have hltw1_0 : w.heap.size < w1.heap.size := block_lt (hS.bx ⟨w.heap.size,#[.bool s,.slice a n cap,.int .i64 x],26⟩ (by simp))
 have hltw1_1 : w.heap.size + 1 < w1.heap.size := block_lt (hS.bx ⟨w.heap.size + 1,#[.bool s',.slice a' n' cap',.int .i64 x'],26⟩ (by simp))
 have hltw1_2 : w.heap.size + 2 < w1.heap.size := block_lt (hS.bx ⟨w.heap.size + 2,#[.bool s2,.slice a2 n2 cap2,.int .i64 x2],26⟩ (by simp))
 replace hS := hS.alloc #[.bool s,.slice a n cap,.int .i64 x,.bool s',.slice a' n' cap',.int .i64 x',.bool s2,.slice a2 n2 cap2,.int .i64 x2] 26
 replace H0 := hide ((unhide H0).alloc (.cells #[.bool s,.slice a n cap,.int .i64 x,.bool s',.slice a' n' cap',.int .i64 x',.bool s2,.slice a2 n2 cap2,.int .i64 x2] 26))
 replace H1 := hide ((unhide H1).alloc (.cells #[.bool s,.slice a n cap,.int .i64 x,.bool s',.slice a' n' cap',.int .i64 x',.bool s2,.slice a2 n2 cap2,.int .i64 x2] 26))
 replace H2 := hide ((unhide H2).alloc (.cells #[.bool s,.slice a n cap,.int .i64 x,.bool s',.slice a' n' cap',.int .i64 x',.bool s2,.slice a2 n2 cap2,.int .i64 x2] 26))
 refine wp_loop_rounds 4 ?_
 rw [rounds_succ]
 go_wp2_with fail
 refine (unhide hc0 _ hS.fr).mono ?_
 rintro e w2 ⟨rfl,hb2⟩
 replace hS := hS.kept hb2
 clear z1_0_0 z1_0_1 z1_0_2 z1_1_0 z1_1_1 z1_1_2 z1_2_0 z1_2_1 z1_2_2
 obtain ⟨⟨z2_0_0,z2_0_1,z2_0_2,z2_0_3,z2_0_4,z2_0_5,z2_0_6,z2_0_7,z2_0_8,-⟩,⟨z2_1_0,z2_1_1,z2_1_2,-⟩,⟨z2_2_0,z2_2_1,z2_2_2,-⟩,⟨z2_3_0,z2_3_1,z2_3_2,-⟩,-⟩ := hS.cells
 replace H0 := hide ((unhide H0).kept hb2)
 replace H1 := hide ((unhide H1).kept hb2)
 replace H2 := hide ((unhide H2).kept hb2)
 go_wp2_with fail
 rw [rounds_succ]
 go_wp2_with fail
 refine (unhide hc1 _ hS.fr).mono ?_
 rintro e w3 ⟨rfl,hb3⟩
 replace hS := hS.kept hb3
 clear z2_0_0 z2_0_1 z2_0_2 z2_0_3 z2_0_4 z2_0_5 z2_0_6 z2_0_7 z2_0_8 z2_1_0 z2_1_1 z2_1_2 z2_2_0 z2_2_1 z2_2_2 z2_3_0 z2_3_1 z2_3_2
 obtain ⟨⟨z3_0_0,z3_0_1,z3_0_2,z3_0_3,z3_0_4,z3_0_5,z3_0_6,z3_0_7,z3_0_8,-⟩,⟨z3_1_0,z3_1_1,z3_1_2,-⟩,⟨z3_2_0,z3_2_1,z3_2_2,-⟩,⟨z3_3_0,z3_3_1,z3_3_2,-⟩,-⟩ := hS.cells
 replace H0 := hide ((unhide H0).kept hb3)
 replace H1 := hide ((unhide H1).kept hb3)
 replace H2 := hide ((unhide H2).kept hb3)
 go_wp2_with fail
 rw [rounds_succ]
 go_wp2_with fail
 refine (unhide hc2 _ hS.fr).mono ?_
 rintro e w4 ⟨rfl,hb4⟩
 replace hS := hS.kept hb4
 clear z3_0_0 z3_0_1 z3_0_2 z3_0_3 z3_0_4 z3_0_5 z3_0_6 z3_0_7 z3_0_8 z3_1_0 z3_1_1 z3_1_2 z3_2_0 z3_2_1 z3_2_2 z3_3_0 z3_3_1 z3_3_2
 obtain ⟨⟨z4_0_0,z4_0_1,z4_0_2,z4_0_3,z4_0_4,z4_0_5,z4_0_6,z4_0_7,z4_0_8,-⟩,⟨z4_1_0,z4_1_1,z4_1_2,-⟩,⟨z4_2_0,z4_2_1,z4_2_2,-⟩,⟨z4_3_0,z4_3_1,z4_3_2,-⟩,-⟩ := hS.cells
 replace H0 := hide ((unhide H0).kept hb4)
 replace H1 := hide ((unhide H1).kept hb4)
 replace H2 := hide ((unhide H2).kept hb4)
 go_wp2_with fail
 rw [rounds_succ]
 go_wp2_with fail
 refine (unhide hs1 _ a' n' cap' a2 n2 cap2 (unhide H1) (unhide H2) ((unhide HT).kept hS.fr)).mono ?_
 rintro e w5 ⟨⟨A1,N1,C1,rfl,f1⟩,hb5⟩
 replace hS := hS.kept hb5
 clear z4_0_0 z4_0_1 z4_0_2 z4_0_3 z4_0_4 z4_0_5 z4_0_6 z4_0_7 z4_0_8 z4_1_0 z4_1_1 z4_1_2 z4_2_0 z4_2_1 z4_2_2 z4_3_0 z4_3_1 z4_3_2
 obtain ⟨⟨z5_0_0,z5_0_1,z5_0_2,z5_0_3,z5_0_4,z5_0_5,z5_0_6,z5_0_7,z5_0_8,-⟩,⟨z5_1_0,z5_1_1,z5_1_2,-⟩,⟨z5_2_0,z5_2_1,z5_2_2,-⟩,⟨z5_3_0,z5_3_1,z5_3_2,-⟩,-⟩ := hS.cells
 replace H0 := hide ((unhide H0).kept hb5)
 replace H1 := hide ((unhide H1).kept hb5)
 replace H2 := hide ((unhide H2).kept hb5)
 have G1 := hide f1
 clear f1
 have hltw5_0 : w1.heap.size < w5.heap.size := block_lt (hS.bx ⟨w1.heap.size,#[.bool s,.slice a n cap,.int .i64 x,.bool s',.slice a' n' cap',.int .i64 x',.bool s2,.slice a2 n2 cap2,.int .i64 x2],26⟩ (by simp))
 have hltw5_1 : w.heap.size < w5.heap.size := block_lt (hS.bx ⟨w.heap.size,#[.bool s,.slice a n cap,.int .i64 x],26⟩ (by simp))
 have hltw5_2 : w.heap.size + 1 < w5.heap.size := block_lt (hS.bx ⟨w.heap.size + 1,#[.bool s',.slice a' n' cap',.int .i64 x'],26⟩ (by simp))
 have hltw5_3 : w.heap.size + 2 < w5.heap.size := block_lt (hS.bx ⟨w.heap.size + 2,#[.bool s2,.slice a2 n2 cap2,.int .i64 x2],26⟩ (by simp))
 replace hS := hS.alloc #[.bool q1,.slice A1 N1 C1,.int .i64 y1] 26
 replace H0 := hide ((unhide H0).alloc (.cells #[.bool q1,.slice A1 N1 C1,.int .i64 y1] 26))
 replace H1 := hide ((unhide H1).alloc (.cells #[.bool q1,.slice A1 N1 C1,.int .i64 y1] 26))
 replace H2 := hide ((unhide H2).alloc (.cells #[.bool q1,.slice A1 N1 C1,.int .i64 y1] 26))
 replace G1 := hide ((unhide G1).alloc (.cells #[.bool q1,.slice A1 N1 C1,.int .i64 y1] 26))
 go_wp2_with fail
 refine (unhide hs2 _ a n cap a' n' cap' (unhide H0) (unhide H1) ((unhide HT).kept hS.fr)).mono ?_
 rintro e w6 ⟨⟨A2,N2,C2,rfl,f2⟩,hb6⟩
 replace hS := hS.kept hb6
 clear z5_0_0 z5_0_1 z5_0_2 z5_0_3 z5_0_4 z5_0_5 z5_0_6 z5_0_7 z5_0_8 z5_1_0 z5_1_1 z5_1_2 z5_2_0 z5_2_1 z5_2_2 z5_3_0 z5_3_1 z5_3_2
 obtain ⟨⟨z6_0_0,z6_0_1,z6_0_2,-⟩,⟨z6_1_0,z6_1_1,z6_1_2,z6_1_3,z6_1_4,z6_1_5,z6_1_6,z6_1_7,z6_1_8,-⟩,⟨z6_2_0,z6_2_1,z6_2_2,-⟩,⟨z6_3_0,z6_3_1,z6_3_2,-⟩,⟨z6_4_0,z6_4_1,z6_4_2,-⟩,-⟩ := hS.cells
 replace H0 := hide ((unhide H0).kept hb6)
 replace H1 := hide ((unhide H1).kept hb6)
 replace H2 := hide ((unhide H2).kept hb6)
 replace G1 := hide ((unhide G1).kept hb6)
 have G2 := hide f2
 clear f2
 have hltw6_0 : w5.heap.size < w6.heap.size := block_lt (hS.bx ⟨w5.heap.size,#[.bool q1,.slice A1 N1 C1,.int .i64 y1],26⟩ (by simp))
 have hltw6_1 : w1.heap.size < w6.heap.size := block_lt (hS.bx ⟨w1.heap.size,#[.bool s,.slice a n cap,.int .i64 x,.bool s',.slice a' n' cap',.int .i64 x',.bool s2,.slice a2 n2 cap2,.int .i64 x2],26⟩ (by simp))
 have hltw6_2 : w.heap.size < w6.heap.size := block_lt (hS.bx ⟨w.heap.size,#[.bool s,.slice a n cap,.int .i64 x],26⟩ (by simp))
 have hltw6_3 : w.heap.size + 1 < w6.heap.size := block_lt (hS.bx ⟨w.heap.size + 1,#[.bool s',.slice a' n' cap',.int .i64 x'],26⟩ (by simp))
 have hltw6_4 : w.heap.size + 2 < w6.heap.size := block_lt (hS.bx ⟨w.heap.size + 2,#[.bool s2,.slice a2 n2 cap2,.int .i64 x2],26⟩ (by simp))
 replace hS := hS.alloc #[.bool q2,.slice A2 N2 C2,.int .i64 y2] 26
 replace H0 := hide ((unhide H0).alloc (.cells #[.bool q2,.slice A2 N2 C2,.int .i64 y2] 26))
 replace H1 := hide ((unhide H1).alloc (.cells #[.bool q2,.slice A2 N2 C2,.int .i64 y2] 26))
 replace H2 := hide ((unhide H2).alloc (.cells #[.bool q2,.slice A2 N2 C2,.int .i64 y2] 26))
 replace G1 := hide ((unhide G1).alloc (.cells #[.bool q2,.slice A2 N2 C2,.int .i64 y2] 26))
 replace G2 := hide ((unhide G2).alloc (.cells #[.bool q2,.slice A2 N2 C2,.int .i64 y2] 26))
 go_wp2_with fail
 refine (unhide hs3 _ A2 N2 C2 a2 n2 cap2 (unhide G2) (unhide H2) ((unhide HT).kept hS.fr)).mono ?_
 rintro e w7 ⟨⟨A3,N3,C3,rfl,f3⟩,hb7⟩
 replace hS := hS.kept hb7
 clear z6_0_0 z6_0_1 z6_0_2 z6_1_0 z6_1_1 z6_1_2 z6_1_3 z6_1_4 z6_1_5 z6_1_6 z6_1_7 z6_1_8 z6_2_0 z6_2_1 z6_2_2 z6_3_0 z6_3_1 z6_3_2 z6_4_0 z6_4_1 z6_4_2
 obtain ⟨⟨z7_0_0,z7_0_1,z7_0_2,-⟩,⟨z7_1_0,z7_1_1,z7_1_2,-⟩,⟨z7_2_0,z7_2_1,z7_2_2,z7_2_3,z7_2_4,z7_2_5,z7_2_6,z7_2_7,z7_2_8,-⟩,⟨z7_3_0,z7_3_1,z7_3_2,-⟩,⟨z7_4_0,z7_4_1,z7_4_2,-⟩,⟨z7_5_0,z7_5_1,z7_5_2,-⟩,-⟩ := hS.cells
 replace H0 := hide ((unhide H0).kept hb7)
 replace H1 := hide ((unhide H1).kept hb7)
 replace H2 := hide ((unhide H2).kept hb7)
 replace G1 := hide ((unhide G1).kept hb7)
 replace G2 := hide ((unhide G2).kept hb7)
 have G3 := hide f3
 clear f3
 have hltw7_0 : w6.heap.size < w7.heap.size := block_lt (hS.bx ⟨w6.heap.size,#[.bool q2,.slice A2 N2 C2,.int .i64 y2],26⟩ (by simp))
 have hltw7_1 : w5.heap.size < w7.heap.size := block_lt (hS.bx ⟨w5.heap.size,#[.bool q1,.slice A1 N1 C1,.int .i64 y1],26⟩ (by simp))
 have hltw7_2 : w1.heap.size < w7.heap.size := block_lt (hS.bx ⟨w1.heap.size,#[.bool s,.slice a n cap,.int .i64 x,.bool s',.slice a' n' cap',.int .i64 x',.bool s2,.slice a2 n2 cap2,.int .i64 x2],26⟩ (by simp))
 have hltw7_3 : w.heap.size < w7.heap.size := block_lt (hS.bx ⟨w.heap.size,#[.bool s,.slice a n cap,.int .i64 x],26⟩ (by simp))
 have hltw7_4 : w.heap.size + 1 < w7.heap.size := block_lt (hS.bx ⟨w.heap.size + 1,#[.bool s',.slice a' n' cap',.int .i64 x'],26⟩ (by simp))
 have hltw7_5 : w.heap.size + 2 < w7.heap.size := block_lt (hS.bx ⟨w.heap.size + 2,#[.bool s2,.slice a2 n2 cap2,.int .i64 x2],26⟩ (by simp))
 replace hS := hS.alloc #[.bool q3,.slice A3 N3 C3,.int .i64 y3] 26
 replace H0 := hide ((unhide H0).alloc (.cells #[.bool q3,.slice A3 N3 C3,.int .i64 y3] 26))
 replace H1 := hide ((unhide H1).alloc (.cells #[.bool q3,.slice A3 N3 C3,.int .i64 y3] 26))
 replace H2 := hide ((unhide H2).alloc (.cells #[.bool q3,.slice A3 N3 C3,.int .i64 y3] 26))
 replace G1 := hide ((unhide G1).alloc (.cells #[.bool q3,.slice A3 N3 C3,.int .i64 y3] 26))
 replace G2 := hide ((unhide G2).alloc (.cells #[.bool q3,.slice A3 N3 C3,.int .i64 y3] 26))
 replace G3 := hide ((unhide G3).alloc (.cells #[.bool q3,.slice A3 N3 C3,.int .i64 y3] 26))
 go_wp2_with fail
 refine (unhide hs4 _ a n cap A1 N1 C1 (unhide H0) (unhide G1) ((unhide HT).kept hS.fr)).mono ?_
 rintro e w8 ⟨⟨A4,N4,C4,rfl,f4⟩,hb8⟩
 replace hS := hS.kept hb8
 clear z7_0_0 z7_0_1 z7_0_2 z7_1_0 z7_1_1 z7_1_2 z7_2_0 z7_2_1 z7_2_2 z7_2_3 z7_2_4 z7_2_5 z7_2_6 z7_2_7 z7_2_8 z7_3_0 z7_3_1 z7_3_2 z7_4_0 z7_4_1 z7_4_2 z7_5_0 z7_5_1 z7_5_2
 obtain ⟨⟨z8_0_0,z8_0_1,z8_0_2,-⟩,⟨z8_1_0,z8_1_1,z8_1_2,-⟩,⟨z8_2_0,z8_2_1,z8_2_2,-⟩,⟨z8_3_0,z8_3_1,z8_3_2,z8_3_3,z8_3_4,z8_3_5,z8_3_6,z8_3_7,z8_3_8,-⟩,⟨z8_4_0,z8_4_1,z8_4_2,-⟩,⟨z8_5_0,z8_5_1,z8_5_2,-⟩,⟨z8_6_0,z8_6_1,z8_6_2,-⟩,-⟩ := hS.cells
 replace H0 := hide ((unhide H0).kept hb8)
 replace H1 := hide ((unhide H1).kept hb8)
 replace H2 := hide ((unhide H2).kept hb8)
 replace G1 := hide ((unhide G1).kept hb8)
 replace G2 := hide ((unhide G2).kept hb8)
 replace G3 := hide ((unhide G3).kept hb8)
 have G4 := hide f4
 clear f4
 have hltw8_0 : w7.heap.size < w8.heap.size := block_lt (hS.bx ⟨w7.heap.size,#[.bool q3,.slice A3 N3 C3,.int .i64 y3],26⟩ (by simp))
 have hltw8_1 : w6.heap.size < w8.heap.size := block_lt (hS.bx ⟨w6.heap.size,#[.bool q2,.slice A2 N2 C2,.int .i64 y2],26⟩ (by simp))
 have hltw8_2 : w5.heap.size < w8.heap.size := block_lt (hS.bx ⟨w5.heap.size,#[.bool q1,.slice A1 N1 C1,.int .i64 y1],26⟩ (by simp))
 have hltw8_3 : w1.heap.size < w8.heap.size := block_lt (hS.bx ⟨w1.heap.size,#[.bool s,.slice a n cap,.int .i64 x,.bool s',.slice a' n' cap',.int .i64 x',.bool s2,.slice a2 n2 cap2,.int .i64 x2],26⟩ (by simp))
 have hltw8_4 : w.heap.size < w8.heap.size := block_lt (hS.bx ⟨w.heap.size,#[.bool s,.slice a n cap,.int .i64 x],26⟩ (by simp))
 have hltw8_5 : w.heap.size + 1 < w8.heap.size := block_lt (hS.bx ⟨w.heap.size + 1,#[.bool s',.slice a' n' cap',.int .i64 x'],26⟩ (by simp))
 have hltw8_6 : w.heap.size + 2 < w8.heap.size := block_lt (hS.bx ⟨w.heap.size + 2,#[.bool s2,.slice a2 n2 cap2,.int .i64 x2],26⟩ (by simp))
 replace hS := hS.alloc #[.bool q3,.slice A4 N4 C4,.int .i64 y3] 26
 replace H0 := hide ((unhide H0).alloc (.cells #[.bool q3,.slice A4 N4 C4,.int .i64 y3] 26))
 replace H1 := hide ((unhide H1).alloc (.cells #[.bool q3,.slice A4 N4 C4,.int .i64 y3] 26))
 replace H2 := hide ((unhide H2).alloc (.cells #[.bool q3,.slice A4 N4 C4,.int .i64 y3] 26))
 replace G1 := hide ((unhide G1).alloc (.cells #[.bool q3,.slice A4 N4 C4,.int .i64 y3] 26))
 replace G2 := hide ((unhide G2).alloc (.cells #[.bool q3,.slice A4 N4 C4,.int .i64 y3] 26))
 replace G3 := hide ((unhide G3).alloc (.cells #[.bool q3,.slice A4 N4 C4,.int .i64 y3] 26))
 replace G4 := hide ((unhide G4).alloc (.cells #[.bool q3,.slice A4 N4 C4,.int .i64 y3] 26))
 go_wp2_with fail
 refine (unhide hs5 _ a n cap A1 N1 C1 (unhide H0) (unhide G1)).mono ?_
 rintro e w9 ⟨⟨A5,N5,C5,rfl,f5⟩,hb9⟩
 replace hS := hS.kept hb9
 clear z8_0_0 z8_0_1 z8_0_2 z8_1_0 z8_1_1 z8_1_2 z8_2_0 z8_2_1 z8_2_2 z8_3_0 z8_3_1 z8_3_2 z8_3_3 z8_3_4 z8_3_5 z8_3_6 z8_3_7 z8_3_8 z8_4_0 z8_4_1 z8_4_2 z8_5_0 z8_5_1 z8_5_2 z8_6_0 z8_6_1 z8_6_2
 obtain ⟨⟨z9_0_0,z9_0_1,z9_0_2,-⟩,⟨z9_1_0,z9_1_1,z9_1_2,-⟩,⟨z9_2_0,z9_2_1,z9_2_2,-⟩,⟨z9_3_0,z9_3_1,z9_3_2,-⟩,⟨z9_4_0,z9_4_1,z9_4_2,z9_4_3,z9_4_4,z9_4_5,z9_4_6,z9_4_7,z9_4_8,-⟩,⟨z9_5_0,z9_5_1,z9_5_2,-⟩,⟨z9_6_0,z9_6_1,z9_6_2,-⟩,⟨z9_7_0,z9_7_1,z9_7_2,-⟩,-⟩ := hS.cells
 replace H0 := hide ((unhide H0).kept hb9)
 replace H1 := hide ((unhide H1).kept hb9)
 replace H2 := hide ((unhide H2).kept hb9)
 replace G1 := hide ((unhide G1).kept hb9)
 replace G2 := hide ((unhide G2).kept hb9)
 replace G3 := hide ((unhide G3).kept hb9)
 replace G4 := hide ((unhide G4).kept hb9)
 have G5 := hide f5
 clear f5
 have hltw9_0 : w8.heap.size < w9.heap.size := block_lt (hS.bx ⟨w8.heap.size,#[.bool q3,.slice A4 N4 C4,.int .i64 y3],26⟩ (by simp))
 have hltw9_1 : w7.heap.size < w9.heap.size := block_lt (hS.bx ⟨w7.heap.size,#[.bool q3,.slice A3 N3 C3,.int .i64 y3],26⟩ (by simp))
 have hltw9_2 : w6.heap.size < w9.heap.size := block_lt (hS.bx ⟨w6.heap.size,#[.bool q2,.slice A2 N2 C2,.int .i64 y2],26⟩ (by simp))
 have hltw9_3 : w5.heap.size < w9.heap.size := block_lt (hS.bx ⟨w5.heap.size,#[.bool q1,.slice A1 N1 C1,.int .i64 y1],26⟩ (by simp))
 have hltw9_4 : w1.heap.size < w9.heap.size := block_lt (hS.bx ⟨w1.heap.size,#[.bool s,.slice a n cap,.int .i64 x,.bool s',.slice a' n' cap',.int .i64 x',.bool s2,.slice a2 n2 cap2,.int .i64 x2],26⟩ (by simp))
 have hltw9_5 : w.heap.size < w9.heap.size := block_lt (hS.bx ⟨w.heap.size,#[.bool s,.slice a n cap,.int .i64 x],26⟩ (by simp))
 have hltw9_6 : w.heap.size + 1 < w9.heap.size := block_lt (hS.bx ⟨w.heap.size + 1,#[.bool s',.slice a' n' cap',.int .i64 x'],26⟩ (by simp))
 have hltw9_7 : w.heap.size + 2 < w9.heap.size := block_lt (hS.bx ⟨w.heap.size + 2,#[.bool s2,.slice a2 n2 cap2,.int .i64 x2],26⟩ (by simp))
 replace hS := hS.alloc #[.bool q5,.slice A5 N5 C5,.int .i64 y5] 26
 replace H0 := hide ((unhide H0).alloc (.cells #[.bool q5,.slice A5 N5 C5,.int .i64 y5] 26))
 replace H1 := hide ((unhide H1).alloc (.cells #[.bool q5,.slice A5 N5 C5,.int .i64 y5] 26))
 replace H2 := hide ((unhide H2).alloc (.cells #[.bool q5,.slice A5 N5 C5,.int .i64 y5] 26))
 replace G1 := hide ((unhide G1).alloc (.cells #[.bool q5,.slice A5 N5 C5,.int .i64 y5] 26))
 replace G2 := hide ((unhide G2).alloc (.cells #[.bool q5,.slice A5 N5 C5,.int .i64 y5] 26))
 replace G3 := hide ((unhide G3).alloc (.cells #[.bool q5,.slice A5 N5 C5,.int .i64 y5] 26))
 replace G4 := hide ((unhide G4).alloc (.cells #[.bool q5,.slice A5 N5 C5,.int .i64 y5] 26))
 replace G5 := hide ((unhide G5).alloc (.cells #[.bool q5,.slice A5 N5 C5,.int .i64 y5] 26))
 go_wp2_with fail
 refine (unhide hs6 _ a n cap a' n' cap' (unhide H0) (unhide H1)).mono ?_
 rintro e w10 ⟨⟨A6,N6,C6,rfl,f6⟩,hb10⟩
 replace hS := hS.kept hb10
 clear z9_0_0 z9_0_1 z9_0_2 z9_1_0 z9_1_1 z9_1_2 z9_2_0 z9_2_1 z9_2_2 z9_3_0 z9_3_1 z9_3_2 z9_4_0 z9_4_1 z9_4_2 z9_4_3 z9_4_4 z9_4_5 z9_4_6 z9_4_7 z9_4_8 z9_5_0 z9_5_1 z9_5_2 z9_6_0 z9_6_1 z9_6_2 z9_7_0 z9_7_1 z9_7_2
 obtain ⟨⟨z10_0_0,z10_0_1,z10_0_2,-⟩,⟨z10_1_0,z10_1_1,z10_1_2,-⟩,⟨z10_2_0,z10_2_1,z10_2_2,-⟩,⟨z10_3_0,z10_3_1,z10_3_2,-⟩,⟨z10_4_0,z10_4_1,z10_4_2,-⟩,⟨z10_5_0,z10_5_1,z10_5_2,z10_5_3,z10_5_4,z10_5_5,z10_5_6,z10_5_7,z10_5_8,-⟩,⟨z10_6_0,z10_6_1,z10_6_2,-⟩,⟨z10_7_0,z10_7_1,z10_7_2,-⟩,⟨z10_8_0,z10_8_1,z10_8_2,-⟩,-⟩ := hS.cells
 replace H0 := hide ((unhide H0).kept hb10)
 replace H1 := hide ((unhide H1).kept hb10)
 replace H2 := hide ((unhide H2).kept hb10)
 replace G1 := hide ((unhide G1).kept hb10)
 replace G2 := hide ((unhide G2).kept hb10)
 replace G3 := hide ((unhide G3).kept hb10)
 replace G4 := hide ((unhide G4).kept hb10)
 replace G5 := hide ((unhide G5).kept hb10)
 have G6 := hide f6
 clear f6
 have hltw10_0 : w9.heap.size < w10.heap.size := block_lt (hS.bx ⟨w9.heap.size,#[.bool q5,.slice A5 N5 C5,.int .i64 y5],26⟩ (by simp))
 have hltw10_1 : w8.heap.size < w10.heap.size := block_lt (hS.bx ⟨w8.heap.size,#[.bool q3,.slice A4 N4 C4,.int .i64 y3],26⟩ (by simp))
 have hltw10_2 : w7.heap.size < w10.heap.size := block_lt (hS.bx ⟨w7.heap.size,#[.bool q3,.slice A3 N3 C3,.int .i64 y3],26⟩ (by simp))
 have hltw10_3 : w6.heap.size < w10.heap.size := block_lt (hS.bx ⟨w6.heap.size,#[.bool q2,.slice A2 N2 C2,.int .i64 y2],26⟩ (by simp))
 have hltw10_4 : w5.heap.size < w10.heap.size := block_lt (hS.bx ⟨w5.heap.size,#[.bool q1,.slice A1 N1 C1,.int .i64 y1],26⟩ (by simp))
 have hltw10_5 : w1.heap.size < w10.heap.size := block_lt (hS.bx ⟨w1.heap.size,#[.bool s,.slice a n cap,.int .i64 x,.bool s',.slice a' n' cap',.int .i64 x',.bool s2,.slice a2 n2 cap2,.int .i64 x2],26⟩ (by simp))
 have hltw10_6 : w.heap.size < w10.heap.size := block_lt (hS.bx ⟨w.heap.size,#[.bool s,.slice a n cap,.int .i64 x],26⟩ (by simp))
 have hltw10_7 : w.heap.size + 1 < w10.heap.size := block_lt (hS.bx ⟨w.heap.size + 1,#[.bool s',.slice a' n' cap',.int .i64 x'],26⟩ (by simp))
 have hltw10_8 : w.heap.size + 2 < w10.heap.size := block_lt (hS.bx ⟨w.heap.size + 2,#[.bool s2,.slice a2 n2 cap2,.int .i64 x2],26⟩ (by simp))
 replace hS := hS.alloc #[.bool q6,.slice A6 N6 C6,.int .i64 y6] 26
 replace H0 := hide ((unhide H0).alloc (.cells #[.bool q6,.slice A6 N6 C6,.int .i64 y6] 26))
 replace H1 := hide ((unhide H1).alloc (.cells #[.bool q6,.slice A6 N6 C6,.int .i64 y6] 26))
 replace H2 := hide ((unhide H2).alloc (.cells #[.bool q6,.slice A6 N6 C6,.int .i64 y6] 26))
 replace G1 := hide ((unhide G1).alloc (.cells #[.bool q6,.slice A6 N6 C6,.int .i64 y6] 26))
 replace G2 := hide ((unhide G2).alloc (.cells #[.bool q6,.slice A6 N6 C6,.int .i64 y6] 26))
 replace G3 := hide ((unhide G3).alloc (.cells #[.bool q6,.slice A6 N6 C6,.int .i64 y6] 26))
 replace G4 := hide ((unhide G4).alloc (.cells #[.bool q6,.slice A6 N6 C6,.int .i64 y6] 26))
 replace G5 := hide ((unhide G5).alloc (.cells #[.bool q6,.slice A6 N6 C6,.int .i64 y6] 26))
 replace G6 := hide ((unhide G6).alloc (.cells #[.bool q6,.slice A6 N6 C6,.int .i64 y6] 26))
 go_wp2_with fail
 refine (unhide hs7 _ a n cap a2 n2 cap2 (unhide H0) (unhide H2)).mono ?_
 rintro e w11 ⟨⟨A7,N7,C7,rfl,f7⟩,hb11⟩
 replace hS := hS.kept hb11
 clear z10_0_0 z10_0_1 z10_0_2 z10_1_0 z10_1_1 z10_1_2 z10_2_0 z10_2_1 z10_2_2 z10_3_0 z10_3_1 z10_3_2 z10_4_0 z10_4_1 z10_4_2 z10_5_0 z10_5_1 z10_5_2 z10_5_3 z10_5_4 z10_5_5 z10_5_6 z10_5_7 z10_5_8 z10_6_0 z10_6_1 z10_6_2 z10_7_0 z10_7_1 z10_7_2 z10_8_0 z10_8_1 z10_8_2
 obtain ⟨⟨z11_0_0,z11_0_1,z11_0_2,-⟩,⟨z11_1_0,z11_1_1,z11_1_2,-⟩,⟨z11_2_0,z11_2_1,z11_2_2,-⟩,⟨z11_3_0,z11_3_1,z11_3_2,-⟩,⟨z11_4_0,z11_4_1,z11_4_2,-⟩,⟨z11_5_0,z11_5_1,z11_5_2,-⟩,⟨z11_6_0,z11_6_1,z11_6_2,z11_6_3,z11_6_4,z11_6_5,z11_6_6,z11_6_7,z11_6_8,-⟩,⟨z11_7_0,z11_7_1,z11_7_2,-⟩,⟨z11_8_0,z11_8_1,z11_8_2,-⟩,⟨z11_9_0,z11_9_1,z11_9_2,-⟩,-⟩ := hS.cells
 replace H0 := hide ((unhide H0).kept hb11)
 replace H1 := hide ((unhide H1).kept hb11)
 replace H2 := hide ((unhide H2).kept hb11)
 replace G1 := hide ((unhide G1).kept hb11)
 replace G2 := hide ((unhide G2).kept hb11)
 replace G3 := hide ((unhide G3).kept hb11)
 replace G4 := hide ((unhide G4).kept hb11)
 replace G5 := hide ((unhide G5).kept hb11)
 replace G6 := hide ((unhide G6).kept hb11)
 have G7 := hide f7
 clear f7
 have hltw11_0 : w10.heap.size < w11.heap.size := block_lt (hS.bx ⟨w10.heap.size,#[.bool q6,.slice A6 N6 C6,.int .i64 y6],26⟩ (by simp))
 have hltw11_1 : w9.heap.size < w11.heap.size := block_lt (hS.bx ⟨w9.heap.size,#[.bool q5,.slice A5 N5 C5,.int .i64 y5],26⟩ (by simp))
 have hltw11_2 : w8.heap.size < w11.heap.size := block_lt (hS.bx ⟨w8.heap.size,#[.bool q3,.slice A4 N4 C4,.int .i64 y3],26⟩ (by simp))
 have hltw11_3 : w7.heap.size < w11.heap.size := block_lt (hS.bx ⟨w7.heap.size,#[.bool q3,.slice A3 N3 C3,.int .i64 y3],26⟩ (by simp))
 have hltw11_4 : w6.heap.size < w11.heap.size := block_lt (hS.bx ⟨w6.heap.size,#[.bool q2,.slice A2 N2 C2,.int .i64 y2],26⟩ (by simp))
 have hltw11_5 : w5.heap.size < w11.heap.size := block_lt (hS.bx ⟨w5.heap.size,#[.bool q1,.slice A1 N1 C1,.int .i64 y1],26⟩ (by simp))
 have hltw11_6 : w1.heap.size < w11.heap.size := block_lt (hS.bx ⟨w1.heap.size,#[.bool s,.slice a n cap,.int .i64 x,.bool s',.slice a' n' cap',.int .i64 x',.bool s2,.slice a2 n2 cap2,.int .i64 x2],26⟩ (by simp))
 have hltw11_7 : w.heap.size < w11.heap.size := block_lt (hS.bx ⟨w.heap.size,#[.bool s,.slice a n cap,.int .i64 x],26⟩ (by simp))
 have hltw11_8 : w.heap.size + 1 < w11.heap.size := block_lt (hS.bx ⟨w.heap.size + 1,#[.bool s',.slice a' n' cap',.int .i64 x'],26⟩ (by simp))
 have hltw11_9 : w.heap.size + 2 < w11.heap.size := block_lt (hS.bx ⟨w.heap.size + 2,#[.bool s2,.slice a2 n2 cap2,.int .i64 x2],26⟩ (by simp))
 replace hS := hS.alloc #[.bool q7,.slice A7 N7 C7,.int .i64 y7] 26
 replace H0 := hide ((unhide H0).alloc (.cells #[.bool q7,.slice A7 N7 C7,.int .i64 y7] 26))
 replace H1 := hide ((unhide H1).alloc (.cells #[.bool q7,.slice A7 N7 C7,.int .i64 y7] 26))
 replace H2 := hide ((unhide H2).alloc (.cells #[.bool q7,.slice A7 N7 C7,.int .i64 y7] 26))
 replace G1 := hide ((unhide G1).alloc (.cells #[.bool q7,.slice A7 N7 C7,.int .i64 y7] 26))
 replace G2 := hide ((unhide G2).alloc (.cells #[.bool q7,.slice A7 N7 C7,.int .i64 y7] 26))
 replace G3 := hide ((unhide G3).alloc (.cells #[.bool q7,.slice A7 N7 C7,.int .i64 y7] 26))
 replace G4 := hide ((unhide G4).alloc (.cells #[.bool q7,.slice A7 N7 C7,.int .i64 y7] 26))
 replace G5 := hide ((unhide G5).alloc (.cells #[.bool q7,.slice A7 N7 C7,.int .i64 y7] 26))
 replace G6 := hide ((unhide G6).alloc (.cells #[.bool q7,.slice A7 N7 C7,.int .i64 y7] 26))
 replace G7 := hide ((unhide G7).alloc (.cells #[.bool q7,.slice A7 N7 C7,.int .i64 y7] 26))
 go_wp2_with fail
 refine (unhide hs8 _ A6 N6 C6 A7 N7 C7 (unhide G6) (unhide G7) ((unhide HT).kept hS.fr)).mono ?_
 rintro e w12 ⟨⟨A8,N8,C8,rfl,f8⟩,hb12⟩
 replace hS := hS.kept hb12
 clear z11_0_0 z11_0_1 z11_0_2 z11_1_0 z11_1_1 z11_1_2 z11_2_0 z11_2_1 z11_2_2 z11_3_0 z11_3_1 z11_3_2 z11_4_0 z11_4_1 z11_4_2 z11_5_0 z11_5_1 z11_5_2 z11_6_0 z11_6_1 z11_6_2 z11_6_3 z11_6_4 z11_6_5 z11_6_6 z11_6_7 z11_6_8 z11_7_0 z11_7_1 z11_7_2 z11_8_0 z11_8_1 z11_8_2 z11_9_0 z11_9_1 z11_9_2
 obtain ⟨⟨z12_0_0,z12_0_1,z12_0_2,-⟩,⟨z12_1_0,z12_1_1,z12_1_2,-⟩,⟨z12_2_0,z12_2_1,z12_2_2,-⟩,⟨z12_3_0,z12_3_1,z12_3_2,-⟩,⟨z12_4_0,z12_4_1,z12_4_2,-⟩,⟨z12_5_0,z12_5_1,z12_5_2,-⟩,⟨z12_6_0,z12_6_1,z12_6_2,-⟩,⟨z12_7_0,z12_7_1,z12_7_2,z12_7_3,z12_7_4,z12_7_5,z12_7_6,z12_7_7,z12_7_8,-⟩,⟨z12_8_0,z12_8_1,z12_8_2,-⟩,⟨z12_9_0,z12_9_1,z12_9_2,-⟩,⟨z12_10_0,z12_10_1,z12_10_2,-⟩,-⟩ := hS.cells
 replace H0 := hide ((unhide H0).kept hb12)
 replace H1 := hide ((unhide H1).kept hb12)
 replace H2 := hide ((unhide H2).kept hb12)
 replace G1 := hide ((unhide G1).kept hb12)
 replace G2 := hide ((unhide G2).kept hb12)
 replace G3 := hide ((unhide G3).kept hb12)
 replace G4 := hide ((unhide G4).kept hb12)
 replace G5 := hide ((unhide G5).kept hb12)
 replace G6 := hide ((unhide G6).kept hb12)
 replace G7 := hide ((unhide G7).kept hb12)
 have G8 := hide f8
 clear f8
 have hltw12_0 : w11.heap.size < w12.heap.size := block_lt (hS.bx ⟨w11.heap.size,#[.bool q7,.slice A7 N7 C7,.int .i64 y7],26⟩ (by simp))
 have hltw12_1 : w10.heap.size < w12.heap.size := block_lt (hS.bx ⟨w10.heap.size,#[.bool q6,.slice A6 N6 C6,.int .i64 y6],26⟩ (by simp))
 have hltw12_2 : w9.heap.size < w12.heap.size := block_lt (hS.bx ⟨w9.heap.size,#[.bool q5,.slice A5 N5 C5,.int .i64 y5],26⟩ (by simp))
 have hltw12_3 : w8.heap.size < w12.heap.size := block_lt (hS.bx ⟨w8.heap.size,#[.bool q3,.slice A4 N4 C4,.int .i64 y3],26⟩ (by simp))
 have hltw12_4 : w7.heap.size < w12.heap.size := block_lt (hS.bx ⟨w7.heap.size,#[.bool q3,.slice A3 N3 C3,.int .i64 y3],26⟩ (by simp))
 have hltw12_5 : w6.heap.size < w12.heap.size := block_lt (hS.bx ⟨w6.heap.size,#[.bool q2,.slice A2 N2 C2,.int .i64 y2],26⟩ (by simp))
 have hltw12_6 : w5.heap.size < w12.heap.size := block_lt (hS.bx ⟨w5.heap.size,#[.bool q1,.slice A1 N1 C1,.int .i64 y1],26⟩ (by simp))
 have hltw12_7 : w1.heap.size < w12.heap.size := block_lt (hS.bx ⟨w1.heap.size,#[.bool s,.slice a n cap,.int .i64 x,.bool s',.slice a' n' cap',.int .i64 x',.bool s2,.slice a2 n2 cap2,.int .i64 x2],26⟩ (by simp))
 have hltw12_8 : w.heap.size < w12.heap.size := block_lt (hS.bx ⟨w.heap.size,#[.bool s,.slice a n cap,.int .i64 x],26⟩ (by simp))
 have hltw12_9 : w.heap.size + 1 < w12.heap.size := block_lt (hS.bx ⟨w.heap.size + 1,#[.bool s',.slice a' n' cap',.int .i64 x'],26⟩ (by simp))
 have hltw12_10 : w.heap.size + 2 < w12.heap.size := block_lt (hS.bx ⟨w.heap.size + 2,#[.bool s2,.slice a2 n2 cap2,.int .i64 x2],26⟩ (by simp))
 replace hS := hS.alloc #[.bool q5,.slice A8 N8 C8,.int .i64 y5] 26
 replace H0 := hide ((unhide H0).alloc (.cells #[.bool q5,.slice A8 N8 C8,.int .i64 y5] 26))
 replace H1 := hide ((unhide H1).alloc (.cells #[.bool q5,.slice A8 N8 C8,.int .i64 y5] 26))
 replace H2 := hide ((unhide H2).alloc (.cells #[.bool q5,.slice A8 N8 C8,.int .i64 y5] 26))
 replace G1 := hide ((unhide G1).alloc (.cells #[.bool q5,.slice A8 N8 C8,.int .i64 y5] 26))
 replace G2 := hide ((unhide G2).alloc (.cells #[.bool q5,.slice A8 N8 C8,.int .i64 y5] 26))
 replace G3 := hide ((unhide G3).alloc (.cells #[.bool q5,.slice A8 N8 C8,.int .i64 y5] 26))
 replace G4 := hide ((unhide G4).alloc (.cells #[.bool q5,.slice A8 N8 C8,.int .i64 y5] 26))
 replace G5 := hide ((unhide G5).alloc (.cells #[.bool q5,.slice A8 N8 C8,.int .i64 y5] 26))
 replace G6 := hide ((unhide G6).alloc (.cells #[.bool q5,.slice A8 N8 C8,.int .i64 y5] 26))
 replace G7 := hide ((unhide G7).alloc (.cells #[.bool q5,.slice A8 N8 C8,.int .i64 y5] 26))
 replace G8 := hide ((unhide G8).alloc (.cells #[.bool q5,.slice A8 N8 C8,.int .i64 y5] 26))
 go_wp2_with fail
 refine (dsame_any q3 A3 N3 C3 v3 A4 N4 C4 y3 _ (unhide G3) (unhide G4)).mono ?_
 rintro e w13 ⟨rfl,hb13⟩
 replace hS := hS.kept hb13
 clear z12_0_0 z12_0_1 z12_0_2 z12_1_0 z12_1_1 z12_1_2 z12_2_0 z12_2_1 z12_2_2 z12_3_0 z12_3_1 z12_3_2 z12_4_0 z12_4_1 z12_4_2 z12_5_0 z12_5_1 z12_5_2 z12_6_0 z12_6_1 z12_6_2 z12_7_0 z12_7_1 z12_7_2 z12_7_3 z12_7_4 z12_7_5 z12_7_6 z12_7_7 z12_7_8 z12_8_0 z12_8_1 z12_8_2 z12_9_0 z12_9_1 z12_9_2 z12_10_0 z12_10_1 z12_10_2
 obtain ⟨⟨z13_0_0,z13_0_1,z13_0_2,-⟩,⟨z13_1_0,z13_1_1,z13_1_2,-⟩,⟨z13_2_0,z13_2_1,z13_2_2,-⟩,⟨z13_3_0,z13_3_1,z13_3_2,-⟩,⟨z13_4_0,z13_4_1,z13_4_2,-⟩,⟨z13_5_0,z13_5_1,z13_5_2,-⟩,⟨z13_6_0,z13_6_1,z13_6_2,-⟩,⟨z13_7_0,z13_7_1,z13_7_2,-⟩,⟨z13_8_0,z13_8_1,z13_8_2,z13_8_3,z13_8_4,z13_8_5,z13_8_6,z13_8_7,z13_8_8,-⟩,⟨z13_9_0,z13_9_1,z13_9_2,-⟩,⟨z13_10_0,z13_10_1,z13_10_2,-⟩,⟨z13_11_0,z13_11_1,z13_11_2,-⟩,-⟩ := hS.cells
 replace H0 := hide ((unhide H0).kept hb13)
 replace H1 := hide ((unhide H1).kept hb13)
 replace H2 := hide ((unhide H2).kept hb13)
 replace G1 := hide ((unhide G1).kept hb13)
 replace G2 := hide ((unhide G2).kept hb13)
 replace G3 := hide ((unhide G3).kept hb13)
 replace G4 := hide ((unhide G4).kept hb13)
 replace G5 := hide ((unhide G5).kept hb13)
 replace G6 := hide ((unhide G6).kept hb13)
 replace G7 := hide ((unhide G7).kept hb13)
 replace G8 := hide ((unhide G8).kept hb13)
 go_wp2_with fail
 refine (dsame_any q5 A5 N5 C5 v5 A8 N8 C8 y5 _ (unhide G5) (unhide G8)).mono ?_
 rintro e w14 ⟨rfl,hb14⟩
 replace hS := hS.kept hb14
 clear z13_0_0 z13_0_1 z13_0_2 z13_1_0 z13_1_1 z13_1_2 z13_2_0 z13_2_1 z13_2_2 z13_3_0 z13_3_1 z13_3_2 z13_4_0 z13_4_1 z13_4_2 z13_5_0 z13_5_1 z13_5_2 z13_6_0 z13_6_1 z13_6_2 z13_7_0 z13_7_1 z13_7_2 z13_8_0 z13_8_1 z13_8_2 z13_8_3 z13_8_4 z13_8_5 z13_8_6 z13_8_7 z13_8_8 z13_9_0 z13_9_1 z13_9_2 z13_10_0 z13_10_1 z13_10_2 z13_11_0 z13_11_1 z13_11_2
 obtain ⟨⟨z14_0_0,z14_0_1,z14_0_2,-⟩,⟨z14_1_0,z14_1_1,z14_1_2,-⟩,⟨z14_2_0,z14_2_1,z14_2_2,-⟩,⟨z14_3_0,z14_3_1,z14_3_2,-⟩,⟨z14_4_0,z14_4_1,z14_4_2,-⟩,⟨z14_5_0,z14_5_1,z14_5_2,-⟩,⟨z14_6_0,z14_6_1,z14_6_2,-⟩,⟨z14_7_0,z14_7_1,z14_7_2,-⟩,⟨z14_8_0,z14_8_1,z14_8_2,z14_8_3,z14_8_4,z14_8_5,z14_8_6,z14_8_7,z14_8_8,-⟩,⟨z14_9_0,z14_9_1,z14_9_2,-⟩,⟨z14_10_0,z14_10_1,z14_10_2,-⟩,⟨z14_11_0,z14_11_1,z14_11_2,-⟩,-⟩ := hS.cells
 replace H0 := hide ((unhide H0).kept hb14)
 replace H1 := hide ((unhide H1).kept hb14)
 replace H2 := hide ((unhide H2).kept hb14)
 replace G1 := hide ((unhide G1).kept hb14)
 replace G2 := hide ((unhide G2).kept hb14)
 replace G3 := hide ((unhide G3).kept hb14)
 replace G4 := hide ((unhide G4).kept hb14)
 replace G5 := hide ((unhide G5).kept hb14)
 replace G6 := hide ((unhide G6).kept hb14)
 replace G7 := hide ((unhide G7).kept hb14)
 replace G8 := hide ((unhide G8).kept hb14)
 go_wp2
 go_ret
 exact ⟨rfl,hS.fr⟩
end Go.Proofs.YtecmcjlgknfnlaaDoor
namespace Go.Proofs.YtecmcjlgknfnlaaDoor
open Go.RowKit
theorem dck_okd {s : Bool} {xs : List Nat} {x : Int} (h : dck s xs x = 0) : chk xs = 0 ∧ OkD s (Pl.val xs) x := by
 have hck : chk xs = 0 := by
  unfold dck at h
  by_cases hc : chk xs = 0
  ·exact hc
  ·rw [if_pos hc] at h; exact absurd h hc
 refine ⟨hck,?_⟩
 unfold dck at h
 rw [if_neg (by simpa using hck)] at h
 by_cases hz : xs.length = 0
 ·rw [if_pos hz] at h
  have hv : Pl.val xs = 0 := by rw [List.length_eq_zero_iff.1 hz]; rfl
  by_cases hs : s = true ∨ x ≠ 0
  ·rw [if_pos hs] at h; cases h
  ·exact Or.inl ⟨hv,by cases s <;> simp_all,by omega⟩
 ·rw [if_neg hz] at h
  by_cases hs : Pl.val xs % 2 = 0 ∨ Far x
  ·rw [if_pos hs] at h; cases h
  ·exact Or.inr ⟨by omega,by unfold Far at hs; omega⟩
theorem grid_lt {m n K : Nat} {x : Int} (hK : K = 12400) (hm : m < 4294967296 ^ n) (hn : n ≤ 200) (h1 : -3000 ≤ x) (h2 : x ≤ 3000) : m * 2 ^ (x - (-3000)).toNat < 2 ^ K := by
 have e1 : (4294967296 : Nat) ^ n = 2 ^ (32 * n) := by rw [Nat.pow_mul]
 rw [e1] at hm
 have e2 : 2 ^ (32 * n) * 2 ^ (x - (-3000)).toNat ≤ 2 ^ K := by
  rw [← Nat.pow_add]
  exact Nat.pow_le_pow_right (by decide) (by omega)
 exact Nat.lt_of_lt_of_le (Nat.mul_lt_mul_of_pos_right hm (pow_pos2 _)) e2
theorem exactOver_any (s : Bool) (a : Option Addr) (n cap : Nat) (xs : List Nat) (x : Int) (s' : Bool) (a' : Option Addr) (n' cap' : Nat) (ys : List Nat) (x' : Int) (s2 : Bool) (a2 : Option Addr) (n2 cap2 : Nat) (zs : List Nat) (x2 : Int) (w : World) (hT : Tb w)
  (hn : xs.length = n) (hb : n ≤ 9223372036854775807) (hl : Lim w a xs) (hw : Pl.Wf xs) (hn' : ys.length = n') (hb' : n' ≤ 9223372036854775807) (hl' : Lim w a' ys) (hw' : Pl.Wf ys) (hn2 : zs.length = n2) (hb2 : n2 ≤ 9223372036854775807) (hl2 : Lim w a2 zs) (hw2 : Pl.Wf zs) :
  Calls Tryd.prog 7 #[.agg #[.bool s,.slice a n cap,.int .i64 x],.agg #[.bool s',.slice a' n' cap',.int .i64 x'],.agg #[.bool s2,.slice a2 n2 cap2,.int .i64 x2]] w fun e w' => e = .returned (.bool true) ∧ Below w.heap.size w w' := by
 have c0 := fun (W : World) (hW : Below w.heap.size w W) => dcheck_any s a n cap xs x W hn hb (hl.below hW) hw
 have c1 := fun (W : World) (hW : Below w.heap.size w W) => dcheck_any s' a' n' cap' ys x' W hn' hb' (hl'.below hW) hw'
 have c2 := fun (W : World) (hW : Below w.heap.size w W) => dcheck_any s2 a2 n2 cap2 zs x2 W hn2 hb2 (hl2.below hW) hw2
 by_cases k0 : dck s xs x = 0
 case neg => exact over_0A s a n cap x s' a' n' cap' x' s2 a2 n2 cap2 x2 _ w hT (hide c0) (by simpa using k0)
 rw [k0] at c0
 by_cases l0 : (n : Int) ≤ 200
 case neg => exact over_0B s a n cap x s' a' n' cap' x' s2 a2 n2 cap2 x2 w hT (hide c0) (by omega)
 by_cases u0 : x ≤ 3000
 case neg => exact over_0C s a n cap x s' a' n' cap' x' s2 a2 n2 cap2 x2 w hT (hide c0) l0 (by omega)
 by_cases v0 : -3000 ≤ x
 case neg => exact over_0D s a n cap x s' a' n' cap' x' s2 a2 n2 cap2 x2 w hT (hide c0) l0 u0 (by omega)
 by_cases k1 : dck s' ys x' = 0
 case neg => exact over_1A s a n cap x s' a' n' cap' x' s2 a2 n2 cap2 x2 _ w hT (hide c0) l0 u0 v0 (hide c1) (by simpa using k1)
 rw [k1] at c1
 by_cases l1 : (n' : Int) ≤ 200
 case neg => exact over_1B s a n cap x s' a' n' cap' x' s2 a2 n2 cap2 x2 w hT (hide c0) l0 u0 v0 (hide c1) (by omega)
 by_cases u1 : x' ≤ 3000
 case neg => exact over_1C s a n cap x s' a' n' cap' x' s2 a2 n2 cap2 x2 w hT (hide c0) l0 u0 v0 (hide c1) l1 (by omega)
 by_cases v1 : -3000 ≤ x'
 case neg => exact over_1D s a n cap x s' a' n' cap' x' s2 a2 n2 cap2 x2 w hT (hide c0) l0 u0 v0 (hide c1) l1 u1 (by omega)
 by_cases k2 : dck s2 zs x2 = 0
 case neg => exact over_2A s a n cap x s' a' n' cap' x' s2 a2 n2 cap2 x2 _ w hT (hide c0) l0 u0 v0 (hide c1) l1 u1 v1 (hide c2) (by simpa using k2)
 rw [k2] at c2
 by_cases l2 : (n2 : Int) ≤ 200
 case neg => exact over_2B s a n cap x s' a' n' cap' x' s2 a2 n2 cap2 x2 w hT (hide c0) l0 u0 v0 (hide c1) l1 u1 v1 (hide c2) (by omega)
 by_cases u2 : x2 ≤ 3000
 case neg => exact over_2C s a n cap x s' a' n' cap' x' s2 a2 n2 cap2 x2 w hT (hide c0) l0 u0 v0 (hide c1) l1 u1 v1 (hide c2) l2 (by omega)
 by_cases v2 : -3000 ≤ x2
 case neg => exact over_2D s a n cap x s' a' n' cap' x' s2 a2 n2 cap2 x2 w hT (hide c0) l0 u0 v0 (hide c1) l1 u1 v1 (hide c2) l2 u2 (by omega)
 obtain ⟨j0,hA⟩ := dck_okd k0
 obtain ⟨j1,hB⟩ := dck_okd k1
 obtain ⟨j2,hC⟩ := dck_okd k2
 have gA := dck_num hn hl hw j0
 have gB := dck_num hn' hl' hw' j1
 have gC := dck_num hn2 hl2 hw2 j2
 have mA := Pl.val_lt hw
 have mB := Pl.val_lt hw'
 have mC := Pl.val_lt hw2
 rw [hn] at mA
 rw [hn'] at mB
 rw [hn2] at mC
 obtain ⟨K,hK⟩ : ∃ K,K = 12400 := ⟨_,rfl⟩
 have tA := grid_lt hK mA (by omega) v0 u0
 have tB := grid_lt hK mB (by omega) v1 u1
 have tC := grid_lt hK mC (by omega) v2 u2
 generalize Pl.val xs = m at hA gA tA
 generalize Pl.val ys = m' at hB gB tB
 generalize Pl.val zs = m2 at hC gC tC
 have up : ∀ {a : Nat},a < 2 ^ K → a < 2 ^ (K + 1) := fun h => Nat.lt_of_lt_of_le h (Nat.pow_le_pow_right (by decide) (by omega))
 obtain ⟨q1,w1,y1,S1,O1,L1,K1,V1⟩ := add_in (-3000) K hB hC (by omega) (by omega) (by omega) v1 v2 tB tC
 obtain ⟨q2,w2,y2,S2,O2,L2,K2,V2⟩ := add_in (-3000) K hA hB (by omega) (by omega) (by omega) v0 v1 tA tB
 obtain ⟨q3,w3,y3,S3,O3,L3,_,V3⟩ := add_in (-3000) (K + 1) O2 hC (by omega) (by omega) (by omega) L2 v2 K2 (up tC)
 obtain ⟨q4,w4,y4,S4,O4,L4,_,V4⟩ := add_in (-3000) (K + 1) hA O1 (by omega) (by omega) (by omega) v0 L1 (up tA) K1
 obtain ⟨q5,w5,y5,S5,O5,L5,_,V5⟩ := mul_in (-3000) (-3000) K (K + 1) hA O1 (by omega) (by omega) (by omega) (by omega) (by omega) (by omega) v0 L1 tA K1
 obtain ⟨q6,w6,y6,S6,O6,L6,K6,V6⟩ := mul_in (-3000) (-3000) K K hA hB (by omega) (by omega) (by omega) (by omega) (by omega) (by omega) v0 v1 tA tB
 obtain ⟨q7,w7,y7,S7,O7,L7,K7,V7⟩ := mul_in (-3000) (-3000) K K hA hC (by omega) (by omega) (by omega) (by omega) (by omega) (by omega) v0 v2 tA tC
 obtain ⟨q8,w8,y8,S8,O8,L8,_,V8⟩ := add_in (-3000 + -3000) (K + K) O6 O7 (by omega) (by omega) (by omega) L6 L7 K6 K7
 obtain ⟨e1,e2,e3⟩ := OkD.one O4 O3 L4 L3 (by rw [V4,V1,V3,V2,Int.add_assoc])
 subst e1 e2 e3
 obtain ⟨e1,e2,e3⟩ := OkD.one O8 O5 L8 L5 (by rw [V8,V6,V7,V5,V1,Int.mul_add])
 subst e1 e2 e3
 exact over_all s a n cap m x s' a' n' cap' m' x' s2 a2 n2 cap2 m2 x2 q1 q2 q4 q8 q6 q7 w1 w2 w4 w8 w6 w7 y1 y2 y4 y8 y6 y7 w hT (hide c0) l0 u0 v0 (hide c1) l1 u1 v1 (hide c2) l2 u2 v2 gA gB gC (hide S1) (hide S2) (hide S3) (hide S4) (hide S5) (hide S6) (hide S7) (hide S8)
end Go.Proofs.YtecmcjlgknfnlaaDoor
