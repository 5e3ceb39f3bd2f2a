/- Of what ExactFloatsRow stands on: ExFlB ExFlC. -/
import Derived.Test.YtjemjhaphannaaaDoorPav
namespace Go.Proofs.YtjemjhaphannaaaDoor
open Go.RowKit
set_option maxRecDepth 20000 in
set_option maxHeartbeats 8000000 in
theorem xf_B_lt (E F : Int) (b x y : Nat) (s0 : Bool) (m0 bk nn : Nat) (x0 : Int) (sx : Bool) (mx : Nat) (ex : Int) (sy : Bool) (my : Nat) (ey : Int) (w : World) (hT : Tb w) (hv0 : Hid (∀ W : World,Tb W → Calls Tryd.prog 18 #[.agg #[.int .i64 E,.int .i64 F],.int .u64 b] W fun e w' => (∃ A N C,e = .returned (.tuple #[.agg #[.bool s0,.slice A N C,.int .i64 x0],.int .i64 0]) ∧ Num w' A N m0) ∧ Below W.heap.size W w')) (hbi : Hid (∀ (W : World) (A : Option Addr) (N C : Nat),Num W A N m0 → Calls Tryd.prog 39 #[.agg #[.int .i64 E,.int .i64 F],.agg #[.bool s0,.slice A N C,.int .i64 x0]] W fun e w' => e = .returned (.tuple #[.int .u64 bk,.bool true,.int .i64 0]) ∧ Below W.heap.size W w')) (hv1 : Hid (∀ W : World,Tb W → Calls Tryd.prog 18 #[.agg #[.int .i64 E,.int .i64 F],.int .u64 bk] W fun e w' => (∃ A N C,e = .returned (.tuple #[.agg #[.bool s0,.slice A N C,.int .i64 x0],.int .i64 0]) ∧ Num w' A N m0) ∧ Below W.heap.size W w')) (hno : Hid (∀ W : World,Calls Tryd.prog 40 #[.agg #[.int .i64 E,.int .i64 F],.bool true] W fun e w' => e = .returned (.tuple #[.int .u64 nn,.int .i64 0]) ∧ Below W.heap.size W w')) (hck : Hid (∀ (W : World) (A : Option Addr) (N C : Nat),Num W A N m0 → Calls Tryd.prog 21 #[.agg #[.bool s0,.slice A N C,.int .i64 x0]] W fun e w' => e = .returned (.int .i64 0) ∧ Below W.heap.size W w')) (hbk : ((bk : Int) != (b : Int)) = false) (hvx : Hid (∀ W : World,Tb W → Calls Tryd.prog 18 #[.agg #[.int .i64 11,.int .i64 52],.int .u64 x] W fun e w' => (∃ A N C,e = .returned (.tuple #[.agg #[.bool sx,.slice A N C,.int .i64 ex],.int .i64 0]) ∧ Num w' A N mx) ∧ Below W.heap.size W w')) (hsx : ∀ W : World,(binOp BinOp.sub 69 (.float .f64 x) (.float .f64 x)).run Tryd.prog W = .ok (.float .f64 0) W) (hvy : Hid (∀ W : World,Tb W → Calls Tryd.prog 18 #[.agg #[.int .i64 11,.int .i64 52],.int .u64 y] W fun e w' => (∃ A N C,e = .returned (.tuple #[.agg #[.bool sy,.slice A N C,.int .i64 ey],.int .i64 0]) ∧ Num w' A N my) ∧ Below W.heap.size W w')) (hsy : ∀ W : World,(binOp BinOp.sub 69 (.float .f64 y) (.float .f64 y)).run Tryd.prog W = .ok (.float .f64 0) W) (hcm : Hid (∀ (W : World) (A : Option Addr) (N C : Nat) (A' : Option Addr) (N' C' : Nat),Num W A N mx → Num W A' N' my → Calls Tryd.prog 17 #[.agg #[.bool sx,.slice A N C,.int .i64 ex],.agg #[.bool sy,.slice A' N' C',.int .i64 ey]] W fun e w' => e = .returned (.tuple #[.int .i64 (-1),.int .i64 0]) ∧ Below W.heap.size W w')) (hord : FloatKind.f64.format.order x y = some .lt) :
  Calls Tryd.prog 8 #[.agg #[.int .i64 E,.int .i64 F],.int .u64 b,.int .u64 x,.int .u64 y] w fun e w' => e = .returned (.bool true) ∧ Below w.heap.size w w' := by
 have HT := hide hT
 clear hT
 have x2 := xf_from
 go_enter Tryd.func8,Tryd.ntmps8
 go_wp2_with fail
 refine (alive_any _ (((unhide HT).alloc _))).mono ?_
 rintro e w1 ⟨rfl,hb1⟩
 have hS := (Fs.one w _ _).kept hb1
 obtain ⟨⟨z1_0_0,z1_0_1,-⟩,-⟩ := hS.cells
 go_wp2_with fail
 refine (unhide hv0 _ ((unhide HT).kept hS.fr)).mono ?_
 rintro e w2 ⟨⟨A3,N3,C3,rfl,f3⟩,hb2⟩
 replace hS := hS.kept hb2
 clear z1_0_0 z1_0_1
 obtain ⟨⟨z2_0_0,z2_0_1,-⟩,-⟩ := hS.cells
 have G3 := hide f3
 clear f3
 have hltw2_0 : w.heap.size < w2.heap.size := block_lt (hS.bx ⟨w.heap.size,#[.int .i64 E,.int .i64 F],38⟩ (by simp))
 replace hS := hS.alloc #[.bool s0,.slice A3 N3 C3,.int .i64 x0] 26
 replace G3 := hide ((unhide G3).alloc (.cells #[.bool s0,.slice A3 N3 C3,.int .i64 x0] 26))
 go_wp2_with fail
 refine (unhide hbi _ A3 N3 C3 (unhide G3)).mono ?_
 rintro e w3 ⟨rfl,hb3⟩
 replace hS := hS.kept hb3
 clear z2_0_0 z2_0_1
 obtain ⟨⟨z3_0_0,z3_0_1,z3_0_2,-⟩,⟨z3_1_0,z3_1_1,-⟩,-⟩ := hS.cells
 replace G3 := hide ((unhide G3).kept hb3)
 go_wp2_with fail
 refine (unhide hv1 _ ((unhide HT).kept hS.fr)).mono ?_
 rintro e w4 ⟨⟨A4,N4,C4,rfl,f4⟩,hb4⟩
 replace hS := hS.kept hb4
 clear z3_0_0 z3_0_1 z3_0_2 z3_1_0 z3_1_1
 obtain ⟨⟨z4_0_0,z4_0_1,z4_0_2,-⟩,⟨z4_1_0,z4_1_1,-⟩,-⟩ := hS.cells
 replace G3 := hide ((unhide G3).kept hb4)
 have G4 := hide f4
 clear f4
 have hltw4_0 : w2.heap.size < w4.heap.size := block_lt (hS.bx ⟨w2.heap.size,#[.bool s0,.slice A3 N3 C3,.int .i64 x0],26⟩ (by simp))
 have hltw4_1 : w.heap.size < w4.heap.size := block_lt (hS.bx ⟨w.heap.size,#[.int .i64 E,.int .i64 F],38⟩ (by simp))
 replace hS := hS.alloc #[.bool s0,.slice A4 N4 C4,.int .i64 x0] 26
 replace G3 := hide ((unhide G3).alloc (.cells #[.bool s0,.slice A4 N4 C4,.int .i64 x0] 26))
 replace G4 := hide ((unhide G4).alloc (.cells #[.bool s0,.slice A4 N4 C4,.int .i64 x0] 26))
 go_wp2_with fail
 refine (unhide hno _).mono ?_
 rintro e w5 ⟨rfl,hb5⟩
 replace hS := hS.kept hb5
 clear z4_0_0 z4_0_1 z4_0_2 z4_1_0 z4_1_1
 obtain ⟨⟨z5_0_0,z5_0_1,z5_0_2,-⟩,⟨z5_1_0,z5_1_1,z5_1_2,-⟩,⟨z5_2_0,z5_2_1,-⟩,-⟩ := hS.cells
 replace G3 := hide ((unhide G3).kept hb5)
 replace G4 := hide ((unhide G4).kept hb5)
 go_wp2_with fail
 refine (dsame_any s0 A4 N4 C4 m0 A3 N3 C3 x0 _ (unhide G4) (unhide G3)).mono ?_
 rintro e w6 ⟨rfl,hb6⟩
 replace hS := hS.kept hb6
 clear z5_0_0 z5_0_1 z5_0_2 z5_1_0 z5_1_1 z5_1_2 z5_2_0 z5_2_1
 obtain ⟨⟨z6_0_0,z6_0_1,z6_0_2,-⟩,⟨z6_1_0,z6_1_1,z6_1_2,-⟩,⟨z6_2_0,z6_2_1,-⟩,-⟩ := hS.cells
 replace G3 := hide ((unhide G3).kept hb6)
 replace G4 := hide ((unhide G4).kept hb6)
 go_wp2_with fail
 refine (unhide hck _ A3 N3 C3 (unhide G3)).mono ?_
 rintro e w7 ⟨rfl,hb7⟩
 replace hS := hS.kept hb7
 clear z6_0_0 z6_0_1 z6_0_2 z6_1_0 z6_1_1 z6_1_2 z6_2_0 z6_2_1
 obtain ⟨⟨z7_0_0,z7_0_1,z7_0_2,-⟩,⟨z7_1_0,z7_1_1,z7_1_2,-⟩,⟨z7_2_0,z7_2_1,-⟩,-⟩ := hS.cells
 replace G3 := hide ((unhide G3).kept hb7)
 replace G4 := hide ((unhide G4).kept hb7)
 go_wp2_with fail
 refine (Double4 _).mono ?_
 rintro e w8 ⟨rfl,hb8⟩
 replace hS := hS.kept hb8
 clear z7_0_0 z7_0_1 z7_0_2 z7_1_0 z7_1_1 z7_1_2 z7_2_0 z7_2_1
 obtain ⟨⟨z8_0_0,z8_0_1,z8_0_2,-⟩,⟨z8_1_0,z8_1_1,z8_1_2,-⟩,⟨z8_2_0,z8_2_1,-⟩,-⟩ := hS.cells
 replace G3 := hide ((unhide G3).kept hb8)
 replace G4 := hide ((unhide G4).kept hb8)
 go_wp2_with fail
 refine (unhide hvx _ ((unhide HT).kept hS.fr)).mono ?_
 rintro e w9 ⟨⟨A1,N1,C1,rfl,f1⟩,hb9⟩
 replace hS := hS.kept hb9
 clear z8_0_0 z8_0_1 z8_0_2 z8_1_0 z8_1_1 z8_1_2 z8_2_0 z8_2_1
 obtain ⟨⟨z9_0_0,z9_0_1,z9_0_2,-⟩,⟨z9_1_0,z9_1_1,z9_1_2,-⟩,⟨z9_2_0,z9_2_1,-⟩,-⟩ := hS.cells
 replace G3 := hide ((unhide G3).kept hb9)
 replace G4 := hide ((unhide G4).kept hb9)
 have G1 := hide f1
 clear f1
 have hltw9_0 : w4.heap.size < w9.heap.size := block_lt (hS.bx ⟨w4.heap.size,#[.bool s0,.slice A4 N4 C4,.int .i64 x0],26⟩ (by simp))
 have hltw9_1 : w2.heap.size < w9.heap.size := block_lt (hS.bx ⟨w2.heap.size,#[.bool s0,.slice A3 N3 C3,.int .i64 x0],26⟩ (by simp))
 have hltw9_2 : w.heap.size < w9.heap.size := block_lt (hS.bx ⟨w.heap.size,#[.int .i64 E,.int .i64 F],38⟩ (by simp))
 replace hS := hS.alloc #[.bool sx,.slice A1 N1 C1,.int .i64 ex] 26
 replace G3 := hide ((unhide G3).alloc (.cells #[.bool sx,.slice A1 N1 C1,.int .i64 ex] 26))
 replace G4 := hide ((unhide G4).alloc (.cells #[.bool sx,.slice A1 N1 C1,.int .i64 ex] 26))
 replace G1 := hide ((unhide G1).alloc (.cells #[.bool sx,.slice A1 N1 C1,.int .i64 ex] 26))
 go_wp2_with fail
 refine (Double4 _).mono ?_
 rintro e w10 ⟨rfl,hb10⟩
 replace hS := hS.kept hb10
 clear z9_0_0 z9_0_1 z9_0_2 z9_1_0 z9_1_1 z9_1_2 z9_2_0 z9_2_1
 obtain ⟨⟨z10_0_0,z10_0_1,z10_0_2,-⟩,⟨z10_1_0,z10_1_1,z10_1_2,-⟩,⟨z10_2_0,z10_2_1,z10_2_2,-⟩,⟨z10_3_0,z10_3_1,-⟩,-⟩ := hS.cells
 replace G3 := hide ((unhide G3).kept hb10)
 replace G4 := hide ((unhide G4).kept hb10)
 replace G1 := hide ((unhide G1).kept hb10)
 go_wp2_with fail
 refine (unhide hvy _ ((unhide HT).kept hS.fr)).mono ?_
 rintro e w11 ⟨⟨A2,N2,C2,rfl,f2⟩,hb11⟩
 replace hS := hS.kept hb11
 clear z10_0_0 z10_0_1 z10_0_2 z10_1_0 z10_1_1 z10_1_2 z10_2_0 z10_2_1 z10_2_2 z10_3_0 z10_3_1
 obtain ⟨⟨z11_0_0,z11_0_1,z11_0_2,-⟩,⟨z11_1_0,z11_1_1,z11_1_2,-⟩,⟨z11_2_0,z11_2_1,z11_2_2,-⟩,⟨z11_3_0,z11_3_1,-⟩,-⟩ := hS.cells
 replace G3 := hide ((unhide G3).kept hb11)
 replace G4 := hide ((unhide G4).kept hb11)
 replace G1 := hide ((unhide G1).kept hb11)
 have G2 := hide f2
 clear f2
 have hltw11_0 : w9.heap.size < w11.heap.size := block_lt (hS.bx ⟨w9.heap.size,#[.bool sx,.slice A1 N1 C1,.int .i64 ex],26⟩ (by simp))
 have hltw11_1 : w4.heap.size < w11.heap.size := block_lt (hS.bx ⟨w4.heap.size,#[.bool s0,.slice A4 N4 C4,.int .i64 x0],26⟩ (by simp))
 have hltw11_2 : w2.heap.size < w11.heap.size := block_lt (hS.bx ⟨w2.heap.size,#[.bool s0,.slice A3 N3 C3,.int .i64 x0],26⟩ (by simp))
 have hltw11_3 : w.heap.size < w11.heap.size := block_lt (hS.bx ⟨w.heap.size,#[.int .i64 E,.int .i64 F],38⟩ (by simp))
 replace hS := hS.alloc #[.bool sy,.slice A2 N2 C2,.int .i64 ey] 26
 replace G3 := hide ((unhide G3).alloc (.cells #[.bool sy,.slice A2 N2 C2,.int .i64 ey] 26))
 replace G4 := hide ((unhide G4).alloc (.cells #[.bool sy,.slice A2 N2 C2,.int .i64 ey] 26))
 replace G1 := hide ((unhide G1).alloc (.cells #[.bool sy,.slice A2 N2 C2,.int .i64 ey] 26))
 replace G2 := hide ((unhide G2).alloc (.cells #[.bool sy,.slice A2 N2 C2,.int .i64 ey] 26))
 go_wp2_with fail
 refine (unhide hcm _ A1 N1 C1 A2 N2 C2 (unhide G1) (unhide G2)).mono ?_
 rintro e w12 ⟨rfl,hb12⟩
 replace hS := hS.kept hb12
 clear z11_0_0 z11_0_1 z11_0_2 z11_1_0 z11_1_1 z11_1_2 z11_2_0 z11_2_1 z11_2_2 z11_3_0 z11_3_1
 obtain ⟨⟨z12_0_0,z12_0_1,z12_0_2,-⟩,⟨z12_1_0,z12_1_1,z12_1_2,-⟩,⟨z12_2_0,z12_2_1,z12_2_2,-⟩,⟨z12_3_0,z12_3_1,z12_3_2,-⟩,⟨z12_4_0,z12_4_1,-⟩,-⟩ := hS.cells
 replace G3 := hide ((unhide G3).kept hb12)
 replace G4 := hide ((unhide G4).kept hb12)
 replace G1 := hide ((unhide G1).kept hb12)
 replace G2 := hide ((unhide G2).kept hb12)
 go_wp2
 go_ret
 first | exact ⟨rfl,hS.fr⟩ | exact ⟨rfl,hS.fr.drew⟩ | exact ⟨rfl,hS.fr.drew.drew⟩
set_option maxRecDepth 20000 in
set_option maxHeartbeats 8000000 in
theorem xf_B_eq (E F : Int) (b x y : Nat) (s0 : Bool) (m0 bk nn : Nat) (x0 : Int) (sx : Bool) (mx : Nat) (ex : Int) (sy : Bool) (my : Nat) (ey : Int) (w : World) (hT : Tb w) (hv0 : Hid (∀ W : World,Tb W → Calls Tryd.prog 18 #[.agg #[.int .i64 E,.int .i64 F],.int .u64 b] W fun e w' => (∃ A N C,e = .returned (.tuple #[.agg #[.bool s0,.slice A N C,.int .i64 x0],.int .i64 0]) ∧ Num w' A N m0) ∧ Below W.heap.size W w')) (hbi : Hid (∀ (W : World) (A : Option Addr) (N C : Nat),Num W A N m0 → Calls Tryd.prog 39 #[.agg #[.int .i64 E,.int .i64 F],.agg #[.bool s0,.slice A N C,.int .i64 x0]] W fun e w' => e = .returned (.tuple #[.int .u64 bk,.bool true,.int .i64 0]) ∧ Below W.heap.size W w')) (hv1 : Hid (∀ W : World,Tb W → Calls Tryd.prog 18 #[.agg #[.int .i64 E,.int .i64 F],.int .u64 bk] W fun e w' => (∃ A N C,e = .returned (.tuple #[.agg #[.bool s0,.slice A N C,.int .i64 x0],.int .i64 0]) ∧ Num w' A N m0) ∧ Below W.heap.size W w')) (hno : Hid (∀ W : World,Calls Tryd.prog 40 #[.agg #[.int .i64 E,.int .i64 F],.bool true] W fun e w' => e = .returned (.tuple #[.int .u64 nn,.int .i64 0]) ∧ Below W.heap.size W w')) (hck : Hid (∀ (W : World) (A : Option Addr) (N C : Nat),Num W A N m0 → Calls Tryd.prog 21 #[.agg #[.bool s0,.slice A N C,.int .i64 x0]] W fun e w' => e = .returned (.int .i64 0) ∧ Below W.heap.size W w')) (hbk : ((bk : Int) != (b : Int)) = false) (hvx : Hid (∀ W : World,Tb W → Calls Tryd.prog 18 #[.agg #[.int .i64 11,.int .i64 52],.int .u64 x] W fun e w' => (∃ A N C,e = .returned (.tuple #[.agg #[.bool sx,.slice A N C,.int .i64 ex],.int .i64 0]) ∧ Num w' A N mx) ∧ Below W.heap.size W w')) (hsx : ∀ W : World,(binOp BinOp.sub 69 (.float .f64 x) (.float .f64 x)).run Tryd.prog W = .ok (.float .f64 0) W) (hvy : Hid (∀ W : World,Tb W → Calls Tryd.prog 18 #[.agg #[.int .i64 11,.int .i64 52],.int .u64 y] W fun e w' => (∃ A N C,e = .returned (.tuple #[.agg #[.bool sy,.slice A N C,.int .i64 ey],.int .i64 0]) ∧ Num w' A N my) ∧ Below W.heap.size W w')) (hsy : ∀ W : World,(binOp BinOp.sub 69 (.float .f64 y) (.float .f64 y)).run Tryd.prog W = .ok (.float .f64 0) W) (hcm : Hid (∀ (W : World) (A : Option Addr) (N C : Nat) (A' : Option Addr) (N' C' : Nat),Num W A N mx → Num W A' N' my → Calls Tryd.prog 17 #[.agg #[.bool sx,.slice A N C,.int .i64 ex],.agg #[.bool sy,.slice A' N' C',.int .i64 ey]] W fun e w' => e = .returned (.tuple #[.int .i64 0,.int .i64 0]) ∧ Below W.heap.size W w')) (hord : FloatKind.f64.format.order x y = some .eq) :
  Calls Tryd.prog 8 #[.agg #[.int .i64 E,.int .i64 F],.int .u64 b,.int .u64 x,.int .u64 y] w fun e w' => e = .returned (.bool true) ∧ Below w.heap.size w w' := by
 have HT := hide hT
 clear hT
 have x2 := xf_from
 go_enter Tryd.func8,Tryd.ntmps8
 go_wp2_with fail
 refine (alive_any _ (((unhide HT).alloc _))).mono ?_
 rintro e w1 ⟨rfl,hb1⟩
 have hS := (Fs.one w _ _).kept hb1
 obtain ⟨⟨z1_0_0,z1_0_1,-⟩,-⟩ := hS.cells
 go_wp2_with fail
 refine (unhide hv0 _ ((unhide HT).kept hS.fr)).mono ?_
 rintro e w2 ⟨⟨A3,N3,C3,rfl,f3⟩,hb2⟩
 replace hS := hS.kept hb2
 clear z1_0_0 z1_0_1
 obtain ⟨⟨z2_0_0,z2_0_1,-⟩,-⟩ := hS.cells
 have G3 := hide f3
 clear f3
 have hltw2_0 : w.heap.size < w2.heap.size := block_lt (hS.bx ⟨w.heap.size,#[.int .i64 E,.int .i64 F],38⟩ (by simp))
 replace hS := hS.alloc #[.bool s0,.slice A3 N3 C3,.int .i64 x0] 26
 replace G3 := hide ((unhide G3).alloc (.cells #[.bool s0,.slice A3 N3 C3,.int .i64 x0] 26))
 go_wp2_with fail
 refine (unhide hbi _ A3 N3 C3 (unhide G3)).mono ?_
 rintro e w3 ⟨rfl,hb3⟩
 replace hS := hS.kept hb3
 clear z2_0_0 z2_0_1
 obtain ⟨⟨z3_0_0,z3_0_1,z3_0_2,-⟩,⟨z3_1_0,z3_1_1,-⟩,-⟩ := hS.cells
 replace G3 := hide ((unhide G3).kept hb3)
 go_wp2_with fail
 refine (unhide hv1 _ ((unhide HT).kept hS.fr)).mono ?_
 rintro e w4 ⟨⟨A4,N4,C4,rfl,f4⟩,hb4⟩
 replace hS := hS.kept hb4
 clear z3_0_0 z3_0_1 z3_0_2 z3_1_0 z3_1_1
 obtain ⟨⟨z4_0_0,z4_0_1,z4_0_2,-⟩,⟨z4_1_0,z4_1_1,-⟩,-⟩ := hS.cells
 replace G3 := hide ((unhide G3).kept hb4)
 have G4 := hide f4
 clear f4
 have hltw4_0 : w2.heap.size < w4.heap.size := block_lt (hS.bx ⟨w2.heap.size,#[.bool s0,.slice A3 N3 C3,.int .i64 x0],26⟩ (by simp))
 have hltw4_1 : w.heap.size < w4.heap.size := block_lt (hS.bx ⟨w.heap.size,#[.int .i64 E,.int .i64 F],38⟩ (by simp))
 replace hS := hS.alloc #[.bool s0,.slice A4 N4 C4,.int .i64 x0] 26
 replace G3 := hide ((unhide G3).alloc (.cells #[.bool s0,.slice A4 N4 C4,.int .i64 x0] 26))
 replace G4 := hide ((unhide G4).alloc (.cells #[.bool s0,.slice A4 N4 C4,.int .i64 x0] 26))
 go_wp2_with fail
 refine (unhide hno _).mono ?_
 rintro e w5 ⟨rfl,hb5⟩
 replace hS := hS.kept hb5
 clear z4_0_0 z4_0_1 z4_0_2 z4_1_0 z4_1_1
 obtain ⟨⟨z5_0_0,z5_0_1,z5_0_2,-⟩,⟨z5_1_0,z5_1_1,z5_1_2,-⟩,⟨z5_2_0,z5_2_1,-⟩,-⟩ := hS.cells
 replace G3 := hide ((unhide G3).kept hb5)
 replace G4 := hide ((unhide G4).kept hb5)
 go_wp2_with fail
 refine (dsame_any s0 A4 N4 C4 m0 A3 N3 C3 x0 _ (unhide G4) (unhide G3)).mono ?_
 rintro e w6 ⟨rfl,hb6⟩
 replace hS := hS.kept hb6
 clear z5_0_0 z5_0_1 z5_0_2 z5_1_0 z5_1_1 z5_1_2 z5_2_0 z5_2_1
 obtain ⟨⟨z6_0_0,z6_0_1,z6_0_2,-⟩,⟨z6_1_0,z6_1_1,z6_1_2,-⟩,⟨z6_2_0,z6_2_1,-⟩,-⟩ := hS.cells
 replace G3 := hide ((unhide G3).kept hb6)
 replace G4 := hide ((unhide G4).kept hb6)
 go_wp2_with fail
 refine (unhide hck _ A3 N3 C3 (unhide G3)).mono ?_
 rintro e w7 ⟨rfl,hb7⟩
 replace hS := hS.kept hb7
 clear z6_0_0 z6_0_1 z6_0_2 z6_1_0 z6_1_1 z6_1_2 z6_2_0 z6_2_1
 obtain ⟨⟨z7_0_0,z7_0_1,z7_0_2,-⟩,⟨z7_1_0,z7_1_1,z7_1_2,-⟩,⟨z7_2_0,z7_2_1,-⟩,-⟩ := hS.cells
 replace G3 := hide ((unhide G3).kept hb7)
 replace G4 := hide ((unhide G4).kept hb7)
 go_wp2_with fail
 refine (Double4 _).mono ?_
 rintro e w8 ⟨rfl,hb8⟩
 replace hS := hS.kept hb8
 clear z7_0_0 z7_0_1 z7_0_2 z7_1_0 z7_1_1 z7_1_2 z7_2_0 z7_2_1
 obtain ⟨⟨z8_0_0,z8_0_1,z8_0_2,-⟩,⟨z8_1_0,z8_1_1,z8_1_2,-⟩,⟨z8_2_0,z8_2_1,-⟩,-⟩ := hS.cells
 replace G3 := hide ((unhide G3).kept hb8)
 replace G4 := hide ((unhide G4).kept hb8)
 go_wp2_with fail
 refine (unhide hvx _ ((unhide HT).kept hS.fr)).mono ?_
 rintro e w9 ⟨⟨A1,N1,C1,rfl,f1⟩,hb9⟩
 replace hS := hS.kept hb9
 clear z8_0_0 z8_0_1 z8_0_2 z8_1_0 z8_1_1 z8_1_2 z8_2_0 z8_2_1
 obtain ⟨⟨z9_0_0,z9_0_1,z9_0_2,-⟩,⟨z9_1_0,z9_1_1,z9_1_2,-⟩,⟨z9_2_0,z9_2_1,-⟩,-⟩ := hS.cells
 replace G3 := hide ((unhide G3).kept hb9)
 replace G4 := hide ((unhide G4).kept hb9)
 have G1 := hide f1
 clear f1
 have hltw9_0 : w4.heap.size < w9.heap.size := block_lt (hS.bx ⟨w4.heap.size,#[.bool s0,.slice A4 N4 C4,.int .i64 x0],26⟩ (by simp))
 have hltw9_1 : w2.heap.size < w9.heap.size := block_lt (hS.bx ⟨w2.heap.size,#[.bool s0,.slice A3 N3 C3,.int .i64 x0],26⟩ (by simp))
 have hltw9_2 : w.heap.size < w9.heap.size := block_lt (hS.bx ⟨w.heap.size,#[.int .i64 E,.int .i64 F],38⟩ (by simp))
 replace hS := hS.alloc #[.bool sx,.slice A1 N1 C1,.int .i64 ex] 26
 replace G3 := hide ((unhide G3).alloc (.cells #[.bool sx,.slice A1 N1 C1,.int .i64 ex] 26))
 replace G4 := hide ((unhide G4).alloc (.cells #[.bool sx,.slice A1 N1 C1,.int .i64 ex] 26))
 replace G1 := hide ((unhide G1).alloc (.cells #[.bool sx,.slice A1 N1 C1,.int .i64 ex] 26))
 go_wp2_with fail
 refine (Double4 _).mono ?_
 rintro e w10 ⟨rfl,hb10⟩
 replace hS := hS.kept hb10
 clear z9_0_0 z9_0_1 z9_0_2 z9_1_0 z9_1_1 z9_1_2 z9_2_0 z9_2_1
 obtain ⟨⟨z10_0_0,z10_0_1,z10_0_2,-⟩,⟨z10_1_0,z10_1_1,z10_1_2,-⟩,⟨z10_2_0,z10_2_1,z10_2_2,-⟩,⟨z10_3_0,z10_3_1,-⟩,-⟩ := hS.cells
 replace G3 := hide ((unhide G3).kept hb10)
 replace G4 := hide ((unhide G4).kept hb10)
 replace G1 := hide ((unhide G1).kept hb10)
 go_wp2_with fail
 refine (unhide hvy _ ((unhide HT).kept hS.fr)).mono ?_
 rintro e w11 ⟨⟨A2,N2,C2,rfl,f2⟩,hb11⟩
 replace hS := hS.kept hb11
 clear z10_0_0 z10_0_1 z10_0_2 z10_1_0 z10_1_1 z10_1_2 z10_2_0 z10_2_1 z10_2_2 z10_3_0 z10_3_1
 obtain ⟨⟨z11_0_0,z11_0_1,z11_0_2,-⟩,⟨z11_1_0,z11_1_1,z11_1_2,-⟩,⟨z11_2_0,z11_2_1,z11_2_2,-⟩,⟨z11_3_0,z11_3_1,-⟩,-⟩ := hS.cells
 replace G3 := hide ((unhide G3).kept hb11)
 replace G4 := hide ((unhide G4).kept hb11)
 replace G1 := hide ((unhide G1).kept hb11)
 have G2 := hide f2
 clear f2
 have hltw11_0 : w9.heap.size < w11.heap.size := block_lt (hS.bx ⟨w9.heap.size,#[.bool sx,.slice A1 N1 C1,.int .i64 ex],26⟩ (by simp))
 have hltw11_1 : w4.heap.size < w11.heap.size := block_lt (hS.bx ⟨w4.heap.size,#[.bool s0,.slice A4 N4 C4,.int .i64 x0],26⟩ (by simp))
 have hltw11_2 : w2.heap.size < w11.heap.size := block_lt (hS.bx ⟨w2.heap.size,#[.bool s0,.slice A3 N3 C3,.int .i64 x0],26⟩ (by simp))
 have hltw11_3 : w.heap.size < w11.heap.size := block_lt (hS.bx ⟨w.heap.size,#[.int .i64 E,.int .i64 F],38⟩ (by simp))
 replace hS := hS.alloc #[.bool sy,.slice A2 N2 C2,.int .i64 ey] 26
 replace G3 := hide ((unhide G3).alloc (.cells #[.bool sy,.slice A2 N2 C2,.int .i64 ey] 26))
 replace G4 := hide ((unhide G4).alloc (.cells #[.bool sy,.slice A2 N2 C2,.int .i64 ey] 26))
 replace G1 := hide ((unhide G1).alloc (.cells #[.bool sy,.slice A2 N2 C2,.int .i64 ey] 26))
 replace G2 := hide ((unhide G2).alloc (.cells #[.bool sy,.slice A2 N2 C2,.int .i64 ey] 26))
 go_wp2_with fail
 refine (unhide hcm _ A1 N1 C1 A2 N2 C2 (unhide G1) (unhide G2)).mono ?_
 rintro e w12 ⟨rfl,hb12⟩
 replace hS := hS.kept hb12
 clear z11_0_0 z11_0_1 z11_0_2 z11_1_0 z11_1_1 z11_1_2 z11_2_0 z11_2_1 z11_2_2 z11_3_0 z11_3_1
 obtain ⟨⟨z12_0_0,z12_0_1,z12_0_2,-⟩,⟨z12_1_0,z12_1_1,z12_1_2,-⟩,⟨z12_2_0,z12_2_1,z12_2_2,-⟩,⟨z12_3_0,z12_3_1,z12_3_2,-⟩,⟨z12_4_0,z12_4_1,-⟩,-⟩ := hS.cells
 replace G3 := hide ((unhide G3).kept hb12)
 replace G4 := hide ((unhide G4).kept hb12)
 replace G1 := hide ((unhide G1).kept hb12)
 replace G2 := hide ((unhide G2).kept hb12)
 go_wp2
 go_ret
 first | exact ⟨rfl,hS.fr⟩ | exact ⟨rfl,hS.fr.drew⟩ | exact ⟨rfl,hS.fr.drew.drew⟩
set_option maxRecDepth 20000 in
set_option maxHeartbeats 8000000 in
theorem xf_B_gt (E F : Int) (b x y : Nat) (s0 : Bool) (m0 bk nn : Nat) (x0 : Int) (sx : Bool) (mx : Nat) (ex : Int) (sy : Bool) (my : Nat) (ey : Int) (w : World) (hT : Tb w) (hv0 : Hid (∀ W : World,Tb W → Calls Tryd.prog 18 #[.agg #[.int .i64 E,.int .i64 F],.int .u64 b] W fun e w' => (∃ A N C,e = .returned (.tuple #[.agg #[.bool s0,.slice A N C,.int .i64 x0],.int .i64 0]) ∧ Num w' A N m0) ∧ Below W.heap.size W w')) (hbi : Hid (∀ (W : World) (A : Option Addr) (N C : Nat),Num W A N m0 → Calls Tryd.prog 39 #[.agg #[.int .i64 E,.int .i64 F],.agg #[.bool s0,.slice A N C,.int .i64 x0]] W fun e w' => e = .returned (.tuple #[.int .u64 bk,.bool true,.int .i64 0]) ∧ Below W.heap.size W w')) (hv1 : Hid (∀ W : World,Tb W → Calls Tryd.prog 18 #[.agg #[.int .i64 E,.int .i64 F],.int .u64 bk] W fun e w' => (∃ A N C,e = .returned (.tuple #[.agg #[.bool s0,.slice A N C,.int .i64 x0],.int .i64 0]) ∧ Num w' A N m0) ∧ Below W.heap.size W w')) (hno : Hid (∀ W : World,Calls Tryd.prog 40 #[.agg #[.int .i64 E,.int .i64 F],.bool true] W fun e w' => e = .returned (.tuple #[.int .u64 nn,.int .i64 0]) ∧ Below W.heap.size W w')) (hck : Hid (∀ (W : World) (A : Option Addr) (N C : Nat),Num W A N m0 → Calls Tryd.prog 21 #[.agg #[.bool s0,.slice A N C,.int .i64 x0]] W fun e w' => e = .returned (.int .i64 0) ∧ Below W.heap.size W w')) (hbk : ((bk : Int) != (b : Int)) = false) (hvx : Hid (∀ W : World,Tb W → Calls Tryd.prog 18 #[.agg #[.int .i64 11,.int .i64 52],.int .u64 x] W fun e w' => (∃ A N C,e = .returned (.tuple #[.agg #[.bool sx,.slice A N C,.int .i64 ex],.int .i64 0]) ∧ Num w' A N mx) ∧ Below W.heap.size W w')) (hsx : ∀ W : World,(binOp BinOp.sub 69 (.float .f64 x) (.float .f64 x)).run Tryd.prog W = .ok (.float .f64 0) W) (hvy : Hid (∀ W : World,Tb W → Calls Tryd.prog 18 #[.agg #[.int .i64 11,.int .i64 52],.int .u64 y] W fun e w' => (∃ A N C,e = .returned (.tuple #[.agg #[.bool sy,.slice A N C,.int .i64 ey],.int .i64 0]) ∧ Num w' A N my) ∧ Below W.heap.size W w')) (hsy : ∀ W : World,(binOp BinOp.sub 69 (.float .f64 y) (.float .f64 y)).run Tryd.prog W = .ok (.float .f64 0) W) (hcm : Hid (∀ (W : World) (A : Option Addr) (N C : Nat) (A' : Option Addr) (N' C' : Nat),Num W A N mx → Num W A' N' my → Calls Tryd.prog 17 #[.agg #[.bool sx,.slice A N C,.int .i64 ex],.agg #[.bool sy,.slice A' N' C',.int .i64 ey]] W fun e w' => e = .returned (.tuple #[.int .i64 1,.int .i64 0]) ∧ Below W.heap.size W w')) (hord : FloatKind.f64.format.order x y = some .gt) :
  Calls Tryd.prog 8 #[.agg #[.int .i64 E,.int .i64 F],.int .u64 b,.int .u64 x,.int .u64 y] w fun e w' => e = .returned (.bool true) ∧ Below w.heap.size w w' := by
 have HT := hide hT
 clear hT
 have x2 := xf_from
 go_enter Tryd.func8,Tryd.ntmps8
 go_wp2_with fail
 refine (alive_any _ (((unhide HT).alloc _))).mono ?_
 rintro e w1 ⟨rfl,hb1⟩
 have hS := (Fs.one w _ _).kept hb1
 obtain ⟨⟨z1_0_0,z1_0_1,-⟩,-⟩ := hS.cells
 go_wp2_with fail
 refine (unhide hv0 _ ((unhide HT).kept hS.fr)).mono ?_
 rintro e w2 ⟨⟨A3,N3,C3,rfl,f3⟩,hb2⟩
 replace hS := hS.kept hb2
 clear z1_0_0 z1_0_1
 obtain ⟨⟨z2_0_0,z2_0_1,-⟩,-⟩ := hS.cells
 have G3 := hide f3
 clear f3
 have hltw2_0 : w.heap.size < w2.heap.size := block_lt (hS.bx ⟨w.heap.size,#[.int .i64 E,.int .i64 F],38⟩ (by simp))
 replace hS := hS.alloc #[.bool s0,.slice A3 N3 C3,.int .i64 x0] 26
 replace G3 := hide ((unhide G3).alloc (.cells #[.bool s0,.slice A3 N3 C3,.int .i64 x0] 26))
 go_wp2_with fail
 refine (unhide hbi _ A3 N3 C3 (unhide G3)).mono ?_
 rintro e w3 ⟨rfl,hb3⟩
 replace hS := hS.kept hb3
 clear z2_0_0 z2_0_1
 obtain ⟨⟨z3_0_0,z3_0_1,z3_0_2,-⟩,⟨z3_1_0,z3_1_1,-⟩,-⟩ := hS.cells
 replace G3 := hide ((unhide G3).kept hb3)
 go_wp2_with fail
 refine (unhide hv1 _ ((unhide HT).kept hS.fr)).mono ?_
 rintro e w4 ⟨⟨A4,N4,C4,rfl,f4⟩,hb4⟩
 replace hS := hS.kept hb4
 clear z3_0_0 z3_0_1 z3_0_2 z3_1_0 z3_1_1
 obtain ⟨⟨z4_0_0,z4_0_1,z4_0_2,-⟩,⟨z4_1_0,z4_1_1,-⟩,-⟩ := hS.cells
 replace G3 := hide ((unhide G3).kept hb4)
 have G4 := hide f4
 clear f4
 have hltw4_0 : w2.heap.size < w4.heap.size := block_lt (hS.bx ⟨w2.heap.size,#[.bool s0,.slice A3 N3 C3,.int .i64 x0],26⟩ (by simp))
 have hltw4_1 : w.heap.size < w4.heap.size := block_lt (hS.bx ⟨w.heap.size,#[.int .i64 E,.int .i64 F],38⟩ (by simp))
 replace hS := hS.alloc #[.bool s0,.slice A4 N4 C4,.int .i64 x0] 26
 replace G3 := hide ((unhide G3).alloc (.cells #[.bool s0,.slice A4 N4 C4,.int .i64 x0] 26))
 replace G4 := hide ((unhide G4).alloc (.cells #[.bool s0,.slice A4 N4 C4,.int .i64 x0] 26))
 go_wp2_with fail
 refine (unhide hno _).mono ?_
 rintro e w5 ⟨rfl,hb5⟩
 replace hS := hS.kept hb5
 clear z4_0_0 z4_0_1 z4_0_2 z4_1_0 z4_1_1
 obtain ⟨⟨z5_0_0,z5_0_1,z5_0_2,-⟩,⟨z5_1_0,z5_1_1,z5_1_2,-⟩,⟨z5_2_0,z5_2_1,-⟩,-⟩ := hS.cells
 replace G3 := hide ((unhide G3).kept hb5)
 replace G4 := hide ((unhide G4).kept hb5)
 go_wp2_with fail
 refine (dsame_any s0 A4 N4 C4 m0 A3 N3 C3 x0 _ (unhide G4) (unhide G3)).mono ?_
 rintro e w6 ⟨rfl,hb6⟩
 replace hS := hS.kept hb6
 clear z5_0_0 z5_0_1 z5_0_2 z5_1_0 z5_1_1 z5_1_2 z5_2_0 z5_2_1
 obtain ⟨⟨z6_0_0,z6_0_1,z6_0_2,-⟩,⟨z6_1_0,z6_1_1,z6_1_2,-⟩,⟨z6_2_0,z6_2_1,-⟩,-⟩ := hS.cells
 replace G3 := hide ((unhide G3).kept hb6)
 replace G4 := hide ((unhide G4).kept hb6)
 go_wp2_with fail
 refine (unhide hck _ A3 N3 C3 (unhide G3)).mono ?_
 rintro e w7 ⟨rfl,hb7⟩
 replace hS := hS.kept hb7
 clear z6_0_0 z6_0_1 z6_0_2 z6_1_0 z6_1_1 z6_1_2 z6_2_0 z6_2_1
 obtain ⟨⟨z7_0_0,z7_0_1,z7_0_2,-⟩,⟨z7_1_0,z7_1_1,z7_1_2,-⟩,⟨z7_2_0,z7_2_1,-⟩,-⟩ := hS.cells
 replace G3 := hide ((unhide G3).kept hb7)
 replace G4 := hide ((unhide G4).kept hb7)
 go_wp2_with fail
 refine (Double4 _).mono ?_
 rintro e w8 ⟨rfl,hb8⟩
 replace hS := hS.kept hb8
 clear z7_0_0 z7_0_1 z7_0_2 z7_1_0 z7_1_1 z7_1_2 z7_2_0 z7_2_1
 obtain ⟨⟨z8_0_0,z8_0_1,z8_0_2,-⟩,⟨z8_1_0,z8_1_1,z8_1_2,-⟩,⟨z8_2_0,z8_2_1,-⟩,-⟩ := hS.cells
 replace G3 := hide ((unhide G3).kept hb8)
 replace G4 := hide ((unhide G4).kept hb8)
 go_wp2_with fail
 refine (unhide hvx _ ((unhide HT).kept hS.fr)).mono ?_
 rintro e w9 ⟨⟨A1,N1,C1,rfl,f1⟩,hb9⟩
 replace hS := hS.kept hb9
 clear z8_0_0 z8_0_1 z8_0_2 z8_1_0 z8_1_1 z8_1_2 z8_2_0 z8_2_1
 obtain ⟨⟨z9_0_0,z9_0_1,z9_0_2,-⟩,⟨z9_1_0,z9_1_1,z9_1_2,-⟩,⟨z9_2_0,z9_2_1,-⟩,-⟩ := hS.cells
 replace G3 := hide ((unhide G3).kept hb9)
 replace G4 := hide ((unhide G4).kept hb9)
 have G1 := hide f1
 clear f1
 have hltw9_0 : w4.heap.size < w9.heap.size := block_lt (hS.bx ⟨w4.heap.size,#[.bool s0,.slice A4 N4 C4,.int .i64 x0],26⟩ (by simp))
 have hltw9_1 : w2.heap.size < w9.heap.size := block_lt (hS.bx ⟨w2.heap.size,#[.bool s0,.slice A3 N3 C3,.int .i64 x0],26⟩ (by simp))
 have hltw9_2 : w.heap.size < w9.heap.size := block_lt (hS.bx ⟨w.heap.size,#[.int .i64 E,.int .i64 F],38⟩ (by simp))
 replace hS := hS.alloc #[.bool sx,.slice A1 N1 C1,.int .i64 ex] 26
 replace G3 := hide ((unhide G3).alloc (.cells #[.bool sx,.slice A1 N1 C1,.int .i64 ex] 26))
 replace G4 := hide ((unhide G4).alloc (.cells #[.bool sx,.slice A1 N1 C1,.int .i64 ex] 26))
 replace G1 := hide ((unhide G1).alloc (.cells #[.bool sx,.slice A1 N1 C1,.int .i64 ex] 26))
 go_wp2_with fail
 refine (Double4 _).mono ?_
 rintro e w10 ⟨rfl,hb10⟩
 replace hS := hS.kept hb10
 clear z9_0_0 z9_0_1 z9_0_2 z9_1_0 z9_1_1 z9_1_2 z9_2_0 z9_2_1
 obtain ⟨⟨z10_0_0,z10_0_1,z10_0_2,-⟩,⟨z10_1_0,z10_1_1,z10_1_2,-⟩,⟨z10_2_0,z10_2_1,z10_2_2,-⟩,⟨z10_3_0,z10_3_1,-⟩,-⟩ := hS.cells
 replace G3 := hide ((unhide G3).kept hb10)
 replace G4 := hide ((unhide G4).kept hb10)
 replace G1 := hide ((unhide G1).kept hb10)
 go_wp2_with fail
 refine (unhide hvy _ ((unhide HT).kept hS.fr)).mono ?_
 rintro e w11 ⟨⟨A2,N2,C2,rfl,f2⟩,hb11⟩
 replace hS := hS.kept hb11
 clear z10_0_0 z10_0_1 z10_0_2 z10_1_0 z10_1_1 z10_1_2 z10_2_0 z10_2_1 z10_2_2 z10_3_0 z10_3_1
 obtain ⟨⟨z11_0_0,z11_0_1,z11_0_2,-⟩,⟨z11_1_0,z11_1_1,z11_1_2,-⟩,⟨z11_2_0,z11_2_1,z11_2_2,-⟩,⟨z11_3_0,z11_3_1,-⟩,-⟩ := hS.cells
 replace G3 := hide ((unhide G3).kept hb11)
 replace G4 := hide ((unhide G4).kept hb11)
 replace G1 := hide ((unhide G1).kept hb11)
 have G2 := hide f2
 clear f2
 have hltw11_0 : w9.heap.size < w11.heap.size := block_lt (hS.bx ⟨w9.heap.size,#[.bool sx,.slice A1 N1 C1,.int .i64 ex],26⟩ (by simp))
 have hltw11_1 : w4.heap.size < w11.heap.size := block_lt (hS.bx ⟨w4.heap.size,#[.bool s0,.slice A4 N4 C4,.int .i64 x0],26⟩ (by simp))
 have hltw11_2 : w2.heap.size < w11.heap.size := block_lt (hS.bx ⟨w2.heap.size,#[.bool s0,.slice A3 N3 C3,.int .i64 x0],26⟩ (by simp))
 have hltw11_3 : w.heap.size < w11.heap.size := block_lt (hS.bx ⟨w.heap.size,#[.int .i64 E,.int .i64 F],38⟩ (by simp))
 replace hS := hS.alloc #[.bool sy,.slice A2 N2 C2,.int .i64 ey] 26
 replace G3 := hide ((unhide G3).alloc (.cells #[.bool sy,.slice A2 N2 C2,.int .i64 ey] 26))
 replace G4 := hide ((unhide G4).alloc (.cells #[.bool sy,.slice A2 N2 C2,.int .i64 ey] 26))
 replace G1 := hide ((unhide G1).alloc (.cells #[.bool sy,.slice A2 N2 C2,.int .i64 ey] 26))
 replace G2 := hide ((unhide G2).alloc (.cells #[.bool sy,.slice A2 N2 C2,.int .i64 ey] 26))
 go_wp2_with fail
 refine (unhide hcm _ A1 N1 C1 A2 N2 C2 (unhide G1) (unhide G2)).mono ?_
 rintro e w12 ⟨rfl,hb12⟩
 replace hS := hS.kept hb12
 clear z11_0_0 z11_0_1 z11_0_2 z11_1_0 z11_1_1 z11_1_2 z11_2_0 z11_2_1 z11_2_2 z11_3_0 z11_3_1
 obtain ⟨⟨z12_0_0,z12_0_1,z12_0_2,-⟩,⟨z12_1_0,z12_1_1,z12_1_2,-⟩,⟨z12_2_0,z12_2_1,z12_2_2,-⟩,⟨z12_3_0,z12_3_1,z12_3_2,-⟩,⟨z12_4_0,z12_4_1,-⟩,-⟩ := hS.cells
 replace G3 := hide ((unhide G3).kept hb12)
 replace G4 := hide ((unhide G4).kept hb12)
 replace G1 := hide ((unhide G1).kept hb12)
 replace G2 := hide ((unhide G2).kept hb12)
 go_wp2
 go_ret
 first | exact ⟨rfl,hS.fr⟩ | exact ⟨rfl,hS.fr.drew⟩ | exact ⟨rfl,hS.fr.drew.drew⟩
set_option maxRecDepth 20000 in
set_option maxHeartbeats 8000000 in
theorem xf_B_xn (E F : Int) (b x y : Nat) (s0 : Bool) (m0 bk nn : Nat) (x0 : Int) (sx : Bool) (mx : Nat) (ex : Int) (gy : Int) (ry : World → Nat) (w : World) (hT : Tb w) (hv0 : Hid (∀ W : World,Tb W → Calls Tryd.prog 18 #[.agg #[.int .i64 E,.int .i64 F],.int .u64 b] W fun e w' => (∃ A N C,e = .returned (.tuple #[.agg #[.bool s0,.slice A N C,.int .i64 x0],.int .i64 0]) ∧ Num w' A N m0) ∧ Below W.heap.size W w')) (hbi : Hid (∀ (W : World) (A : Option Addr) (N C : Nat),Num W A N m0 → Calls Tryd.prog 39 #[.agg #[.int .i64 E,.int .i64 F],.agg #[.bool s0,.slice A N C,.int .i64 x0]] W fun e w' => e = .returned (.tuple #[.int .u64 bk,.bool true,.int .i64 0]) ∧ Below W.heap.size W w')) (hv1 : Hid (∀ W : World,Tb W → Calls Tryd.prog 18 #[.agg #[.int .i64 E,.int .i64 F],.int .u64 bk] W fun e w' => (∃ A N C,e = .returned (.tuple #[.agg #[.bool s0,.slice A N C,.int .i64 x0],.int .i64 0]) ∧ Num w' A N m0) ∧ Below W.heap.size W w')) (hno : Hid (∀ W : World,Calls Tryd.prog 40 #[.agg #[.int .i64 E,.int .i64 F],.bool true] W fun e w' => e = .returned (.tuple #[.int .u64 nn,.int .i64 0]) ∧ Below W.heap.size W w')) (hck : Hid (∀ (W : World) (A : Option Addr) (N C : Nat),Num W A N m0 → Calls Tryd.prog 21 #[.agg #[.bool s0,.slice A N C,.int .i64 x0]] W fun e w' => e = .returned (.int .i64 0) ∧ Below W.heap.size W w')) (hbk : ((bk : Int) != (b : Int)) = false) (hvx : Hid (∀ W : World,Tb W → Calls Tryd.prog 18 #[.agg #[.int .i64 11,.int .i64 52],.int .u64 x] W fun e w' => (∃ A N C,e = .returned (.tuple #[.agg #[.bool sx,.slice A N C,.int .i64 ex],.int .i64 0]) ∧ Num w' A N mx) ∧ Below W.heap.size W w')) (hsx : ∀ W : World,(binOp BinOp.sub 69 (.float .f64 x) (.float .f64 x)).run Tryd.prog W = .ok (.float .f64 0) W) (hvy : Hid (∀ W : World,Calls Tryd.prog 18 #[.agg #[.int .i64 11,.int .i64 52],.int .u64 y] W fun e w' => e = .returned (.tuple #[.agg #[.bool false,.slice none 0 0,.int .i64 0],.int .i64 gy]) ∧ Below W.heap.size W w')) (hgy : (gy == 0) = false) (hgy2 : (gy != 0) = true) (hsy : ∀ W : World,(binOp BinOp.sub 69 (.float .f64 y) (.float .f64 y)).run Tryd.prog W = .ok (.float .f64 (ry W)) W.drew) (hry : ∀ W,FloatKind.f64.format.order (ry W) 0 = none)  :
  Calls Tryd.prog 8 #[.agg #[.int .i64 E,.int .i64 F],.int .u64 b,.int .u64 x,.int .u64 y] w fun e w' => e = .returned (.bool true) ∧ Below w.heap.size w w' := by
 have HT := hide hT
 clear hT
 have x2 := xf_from
 go_enter Tryd.func8,Tryd.ntmps8
 go_wp2_with fail
 refine (alive_any _ (((unhide HT).alloc _))).mono ?_
 rintro e w1 ⟨rfl,hb1⟩
 have hS := (Fs.one w _ _).kept hb1
 obtain ⟨⟨z1_0_0,z1_0_1,-⟩,-⟩ := hS.cells
 go_wp2_with fail
 refine (unhide hv0 _ ((unhide HT).kept hS.fr)).mono ?_
 rintro e w2 ⟨⟨A3,N3,C3,rfl,f3⟩,hb2⟩
 replace hS := hS.kept hb2
 clear z1_0_0 z1_0_1
 obtain ⟨⟨z2_0_0,z2_0_1,-⟩,-⟩ := hS.cells
 have G3 := hide f3
 clear f3
 have hltw2_0 : w.heap.size < w2.heap.size := block_lt (hS.bx ⟨w.heap.size,#[.int .i64 E,.int .i64 F],38⟩ (by simp))
 replace hS := hS.alloc #[.bool s0,.slice A3 N3 C3,.int .i64 x0] 26
 replace G3 := hide ((unhide G3).alloc (.cells #[.bool s0,.slice A3 N3 C3,.int .i64 x0] 26))
 go_wp2_with fail
 refine (unhide hbi _ A3 N3 C3 (unhide G3)).mono ?_
 rintro e w3 ⟨rfl,hb3⟩
 replace hS := hS.kept hb3
 clear z2_0_0 z2_0_1
 obtain ⟨⟨z3_0_0,z3_0_1,z3_0_2,-⟩,⟨z3_1_0,z3_1_1,-⟩,-⟩ := hS.cells
 replace G3 := hide ((unhide G3).kept hb3)
 go_wp2_with fail
 refine (unhide hv1 _ ((unhide HT).kept hS.fr)).mono ?_
 rintro e w4 ⟨⟨A4,N4,C4,rfl,f4⟩,hb4⟩
 replace hS := hS.kept hb4
 clear z3_0_0 z3_0_1 z3_0_2 z3_1_0 z3_1_1
 obtain ⟨⟨z4_0_0,z4_0_1,z4_0_2,-⟩,⟨z4_1_0,z4_1_1,-⟩,-⟩ := hS.cells
 replace G3 := hide ((unhide G3).kept hb4)
 have G4 := hide f4
 clear f4
 have hltw4_0 : w2.heap.size < w4.heap.size := block_lt (hS.bx ⟨w2.heap.size,#[.bool s0,.slice A3 N3 C3,.int .i64 x0],26⟩ (by simp))
 have hltw4_1 : w.heap.size < w4.heap.size := block_lt (hS.bx ⟨w.heap.size,#[.int .i64 E,.int .i64 F],38⟩ (by simp))
 replace hS := hS.alloc #[.bool s0,.slice A4 N4 C4,.int .i64 x0] 26
 replace G3 := hide ((unhide G3).alloc (.cells #[.bool s0,.slice A4 N4 C4,.int .i64 x0] 26))
 replace G4 := hide ((unhide G4).alloc (.cells #[.bool s0,.slice A4 N4 C4,.int .i64 x0] 26))
 go_wp2_with fail
 refine (unhide hno _).mono ?_
 rintro e w5 ⟨rfl,hb5⟩
 replace hS := hS.kept hb5
 clear z4_0_0 z4_0_1 z4_0_2 z4_1_0 z4_1_1
 obtain ⟨⟨z5_0_0,z5_0_1,z5_0_2,-⟩,⟨z5_1_0,z5_1_1,z5_1_2,-⟩,⟨z5_2_0,z5_2_1,-⟩,-⟩ := hS.cells
 replace G3 := hide ((unhide G3).kept hb5)
 replace G4 := hide ((unhide G4).kept hb5)
 go_wp2_with fail
 refine (dsame_any s0 A4 N4 C4 m0 A3 N3 C3 x0 _ (unhide G4) (unhide G3)).mono ?_
 rintro e w6 ⟨rfl,hb6⟩
 replace hS := hS.kept hb6
 clear z5_0_0 z5_0_1 z5_0_2 z5_1_0 z5_1_1 z5_1_2 z5_2_0 z5_2_1
 obtain ⟨⟨z6_0_0,z6_0_1,z6_0_2,-⟩,⟨z6_1_0,z6_1_1,z6_1_2,-⟩,⟨z6_2_0,z6_2_1,-⟩,-⟩ := hS.cells
 replace G3 := hide ((unhide G3).kept hb6)
 replace G4 := hide ((unhide G4).kept hb6)
 go_wp2_with fail
 refine (unhide hck _ A3 N3 C3 (unhide G3)).mono ?_
 rintro e w7 ⟨rfl,hb7⟩
 replace hS := hS.kept hb7
 clear z6_0_0 z6_0_1 z6_0_2 z6_1_0 z6_1_1 z6_1_2 z6_2_0 z6_2_1
 obtain ⟨⟨z7_0_0,z7_0_1,z7_0_2,-⟩,⟨z7_1_0,z7_1_1,z7_1_2,-⟩,⟨z7_2_0,z7_2_1,-⟩,-⟩ := hS.cells
 replace G3 := hide ((unhide G3).kept hb7)
 replace G4 := hide ((unhide G4).kept hb7)
 go_wp2_with fail
 refine (Double4 _).mono ?_
 rintro e w8 ⟨rfl,hb8⟩
 replace hS := hS.kept hb8
 clear z7_0_0 z7_0_1 z7_0_2 z7_1_0 z7_1_1 z7_1_2 z7_2_0 z7_2_1
 obtain ⟨⟨z8_0_0,z8_0_1,z8_0_2,-⟩,⟨z8_1_0,z8_1_1,z8_1_2,-⟩,⟨z8_2_0,z8_2_1,-⟩,-⟩ := hS.cells
 replace G3 := hide ((unhide G3).kept hb8)
 replace G4 := hide ((unhide G4).kept hb8)
 go_wp2_with fail
 refine (unhide hvx _ ((unhide HT).kept hS.fr)).mono ?_
 rintro e w9 ⟨⟨A1,N1,C1,rfl,f1⟩,hb9⟩
 replace hS := hS.kept hb9
 clear z8_0_0 z8_0_1 z8_0_2 z8_1_0 z8_1_1 z8_1_2 z8_2_0 z8_2_1
 obtain ⟨⟨z9_0_0,z9_0_1,z9_0_2,-⟩,⟨z9_1_0,z9_1_1,z9_1_2,-⟩,⟨z9_2_0,z9_2_1,-⟩,-⟩ := hS.cells
 replace G3 := hide ((unhide G3).kept hb9)
 replace G4 := hide ((unhide G4).kept hb9)
 have G1 := hide f1
 clear f1
 have hltw9_0 : w4.heap.size < w9.heap.size := block_lt (hS.bx ⟨w4.heap.size,#[.bool s0,.slice A4 N4 C4,.int .i64 x0],26⟩ (by simp))
 have hltw9_1 : w2.heap.size < w9.heap.size := block_lt (hS.bx ⟨w2.heap.size,#[.bool s0,.slice A3 N3 C3,.int .i64 x0],26⟩ (by simp))
 have hltw9_2 : w.heap.size < w9.heap.size := block_lt (hS.bx ⟨w.heap.size,#[.int .i64 E,.int .i64 F],38⟩ (by simp))
 replace hS := hS.alloc #[.bool sx,.slice A1 N1 C1,.int .i64 ex] 26
 replace G3 := hide ((unhide G3).alloc (.cells #[.bool sx,.slice A1 N1 C1,.int .i64 ex] 26))
 replace G4 := hide ((unhide G4).alloc (.cells #[.bool sx,.slice A1 N1 C1,.int .i64 ex] 26))
 replace G1 := hide ((unhide G1).alloc (.cells #[.bool sx,.slice A1 N1 C1,.int .i64 ex] 26))
 go_wp2_with fail
 refine (Double4 _).mono ?_
 rintro e w10 ⟨rfl,hb10⟩
 replace hS := hS.kept hb10
 clear z9_0_0 z9_0_1 z9_0_2 z9_1_0 z9_1_1 z9_1_2 z9_2_0 z9_2_1
 obtain ⟨⟨z10_0_0,z10_0_1,z10_0_2,-⟩,⟨z10_1_0,z10_1_1,z10_1_2,-⟩,⟨z10_2_0,z10_2_1,z10_2_2,-⟩,⟨z10_3_0,z10_3_1,-⟩,-⟩ := hS.cells
 replace G3 := hide ((unhide G3).kept hb10)
 replace G4 := hide ((unhide G4).kept hb10)
 replace G1 := hide ((unhide G1).kept hb10)
 go_wp2_with fail
 refine (unhide hvy _).mono ?_
 rintro e w11 ⟨rfl,hb11⟩
 replace hS := hS.kept hb11
 clear z10_0_0 z10_0_1 z10_0_2 z10_1_0 z10_1_1 z10_1_2 z10_2_0 z10_2_1 z10_2_2 z10_3_0 z10_3_1
 obtain ⟨⟨z11_0_0,z11_0_1,z11_0_2,-⟩,⟨z11_1_0,z11_1_1,z11_1_2,-⟩,⟨z11_2_0,z11_2_1,z11_2_2,-⟩,⟨z11_3_0,z11_3_1,-⟩,-⟩ := hS.cells
 replace G3 := hide ((unhide G3).kept hb11)
 replace G4 := hide ((unhide G4).kept hb11)
 replace G1 := hide ((unhide G1).kept hb11)
 have hltw11_0 : w9.heap.size < w11.heap.size := block_lt (hS.bx ⟨w9.heap.size,#[.bool sx,.slice A1 N1 C1,.int .i64 ex],26⟩ (by simp))
 have hltw11_1 : w4.heap.size < w11.heap.size := block_lt (hS.bx ⟨w4.heap.size,#[.bool s0,.slice A4 N4 C4,.int .i64 x0],26⟩ (by simp))
 have hltw11_2 : w2.heap.size < w11.heap.size := block_lt (hS.bx ⟨w2.heap.size,#[.bool s0,.slice A3 N3 C3,.int .i64 x0],26⟩ (by simp))
 have hltw11_3 : w.heap.size < w11.heap.size := block_lt (hS.bx ⟨w.heap.size,#[.int .i64 E,.int .i64 F],38⟩ (by simp))
 replace hS := hS.alloc #[.bool false,.slice none 0 0,.int .i64 0] 26
 replace G3 := hide ((unhide G3).alloc (.cells #[.bool false,.slice none 0 0,.int .i64 0] 26))
 replace G4 := hide ((unhide G4).alloc (.cells #[.bool false,.slice none 0 0,.int .i64 0] 26))
 replace G1 := hide ((unhide G1).alloc (.cells #[.bool false,.slice none 0 0,.int .i64 0] 26))
 go_wp2
 go_ret
 first | exact ⟨rfl,hS.fr⟩ | exact ⟨rfl,hS.fr.drew⟩ | exact ⟨rfl,hS.fr.drew.drew⟩
set_option maxRecDepth 20000 in
set_option maxHeartbeats 8000000 in
theorem xf_B_nx (E F : Int) (b x y : Nat) (s0 : Bool) (m0 bk nn : Nat) (x0 : Int) (gx : Int) (rx : World → Nat) (sy : Bool) (my : Nat) (ey : Int) (w : World) (hT : Tb w) (hv0 : Hid (∀ W : World,Tb W → Calls Tryd.prog 18 #[.agg #[.int .i64 E,.int .i64 F],.int .u64 b] W fun e w' => (∃ A N C,e = .returned (.tuple #[.agg #[.bool s0,.slice A N C,.int .i64 x0],.int .i64 0]) ∧ Num w' A N m0) ∧ Below W.heap.size W w')) (hbi : Hid (∀ (W : World) (A : Option Addr) (N C : Nat),Num W A N m0 → Calls Tryd.prog 39 #[.agg #[.int .i64 E,.int .i64 F],.agg #[.bool s0,.slice A N C,.int .i64 x0]] W fun e w' => e = .returned (.tuple #[.int .u64 bk,.bool true,.int .i64 0]) ∧ Below W.heap.size W w')) (hv1 : Hid (∀ W : World,Tb W → Calls Tryd.prog 18 #[.agg #[.int .i64 E,.int .i64 F],.int .u64 bk] W fun e w' => (∃ A N C,e = .returned (.tuple #[.agg #[.bool s0,.slice A N C,.int .i64 x0],.int .i64 0]) ∧ Num w' A N m0) ∧ Below W.heap.size W w')) (hno : Hid (∀ W : World,Calls Tryd.prog 40 #[.agg #[.int .i64 E,.int .i64 F],.bool true] W fun e w' => e = .returned (.tuple #[.int .u64 nn,.int .i64 0]) ∧ Below W.heap.size W w')) (hck : Hid (∀ (W : World) (A : Option Addr) (N C : Nat),Num W A N m0 → Calls Tryd.prog 21 #[.agg #[.bool s0,.slice A N C,.int .i64 x0]] W fun e w' => e = .returned (.int .i64 0) ∧ Below W.heap.size W w')) (hbk : ((bk : Int) != (b : Int)) = false) (hvx : Hid (∀ W : World,Calls Tryd.prog 18 #[.agg #[.int .i64 11,.int .i64 52],.int .u64 x] W fun e w' => e = .returned (.tuple #[.agg #[.bool false,.slice none 0 0,.int .i64 0],.int .i64 gx]) ∧ Below W.heap.size W w')) (hgx : (gx == 0) = false) (hgx2 : (gx != 0) = true) (hsx : ∀ W : World,(binOp BinOp.sub 69 (.float .f64 x) (.float .f64 x)).run Tryd.prog W = .ok (.float .f64 (rx W)) W.drew) (hrx : ∀ W,FloatKind.f64.format.order (rx W) 0 = none) (hvy : Hid (∀ W : World,Tb W → Calls Tryd.prog 18 #[.agg #[.int .i64 11,.int .i64 52],.int .u64 y] W fun e w' => (∃ A N C,e = .returned (.tuple #[.agg #[.bool sy,.slice A N C,.int .i64 ey],.int .i64 0]) ∧ Num w' A N my) ∧ Below W.heap.size W w')) (hsy : ∀ W : World,(binOp BinOp.sub 69 (.float .f64 y) (.float .f64 y)).run Tryd.prog W = .ok (.float .f64 0) W)  :
  Calls Tryd.prog 8 #[.agg #[.int .i64 E,.int .i64 F],.int .u64 b,.int .u64 x,.int .u64 y] w fun e w' => e = .returned (.bool true) ∧ Below w.heap.size w w' := by
 have HT := hide hT
 clear hT
 have x2 := xf_from
 go_enter Tryd.func8,Tryd.ntmps8
 go_wp2_with fail
 refine (alive_any _ (((unhide HT).alloc _))).mono ?_
 rintro e w1 ⟨rfl,hb1⟩
 have hS := (Fs.one w _ _).kept hb1
 obtain ⟨⟨z1_0_0,z1_0_1,-⟩,-⟩ := hS.cells
 go_wp2_with fail
 refine (unhide hv0 _ ((unhide HT).kept hS.fr)).mono ?_
 rintro e w2 ⟨⟨A3,N3,C3,rfl,f3⟩,hb2⟩
 replace hS := hS.kept hb2
 clear z1_0_0 z1_0_1
 obtain ⟨⟨z2_0_0,z2_0_1,-⟩,-⟩ := hS.cells
 have G3 := hide f3
 clear f3
 have hltw2_0 : w.heap.size < w2.heap.size := block_lt (hS.bx ⟨w.heap.size,#[.int .i64 E,.int .i64 F],38⟩ (by simp))
 replace hS := hS.alloc #[.bool s0,.slice A3 N3 C3,.int .i64 x0] 26
 replace G3 := hide ((unhide G3).alloc (.cells #[.bool s0,.slice A3 N3 C3,.int .i64 x0] 26))
 go_wp2_with fail
 refine (unhide hbi _ A3 N3 C3 (unhide G3)).mono ?_
 rintro e w3 ⟨rfl,hb3⟩
 replace hS := hS.kept hb3
 clear z2_0_0 z2_0_1
 obtain ⟨⟨z3_0_0,z3_0_1,z3_0_2,-⟩,⟨z3_1_0,z3_1_1,-⟩,-⟩ := hS.cells
 replace G3 := hide ((unhide G3).kept hb3)
 go_wp2_with fail
 refine (unhide hv1 _ ((unhide HT).kept hS.fr)).mono ?_
 rintro e w4 ⟨⟨A4,N4,C4,rfl,f4⟩,hb4⟩
 replace hS := hS.kept hb4
 clear z3_0_0 z3_0_1 z3_0_2 z3_1_0 z3_1_1
 obtain ⟨⟨z4_0_0,z4_0_1,z4_0_2,-⟩,⟨z4_1_0,z4_1_1,-⟩,-⟩ := hS.cells
 replace G3 := hide ((unhide G3).kept hb4)
 have G4 := hide f4
 clear f4
 have hltw4_0 : w2.heap.size < w4.heap.size := block_lt (hS.bx ⟨w2.heap.size,#[.bool s0,.slice A3 N3 C3,.int .i64 x0],26⟩ (by simp))
 have hltw4_1 : w.heap.size < w4.heap.size := block_lt (hS.bx ⟨w.heap.size,#[.int .i64 E,.int .i64 F],38⟩ (by simp))
 replace hS := hS.alloc #[.bool s0,.slice A4 N4 C4,.int .i64 x0] 26
 replace G3 := hide ((unhide G3).alloc (.cells #[.bool s0,.slice A4 N4 C4,.int .i64 x0] 26))
 replace G4 := hide ((unhide G4).alloc (.cells #[.bool s0,.slice A4 N4 C4,.int .i64 x0] 26))
 go_wp2_with fail
 refine (unhide hno _).mono ?_
 rintro e w5 ⟨rfl,hb5⟩
 replace hS := hS.kept hb5
 clear z4_0_0 z4_0_1 z4_0_2 z4_1_0 z4_1_1
 obtain ⟨⟨z5_0_0,z5_0_1,z5_0_2,-⟩,⟨z5_1_0,z5_1_1,z5_1_2,-⟩,⟨z5_2_0,z5_2_1,-⟩,-⟩ := hS.cells
 replace G3 := hide ((unhide G3).kept hb5)
 replace G4 := hide ((unhide G4).kept hb5)
 go_wp2_with fail
 refine (dsame_any s0 A4 N4 C4 m0 A3 N3 C3 x0 _ (unhide G4) (unhide G3)).mono ?_
 rintro e w6 ⟨rfl,hb6⟩
 replace hS := hS.kept hb6
 clear z5_0_0 z5_0_1 z5_0_2 z5_1_0 z5_1_1 z5_1_2 z5_2_0 z5_2_1
 obtain ⟨⟨z6_0_0,z6_0_1,z6_0_2,-⟩,⟨z6_1_0,z6_1_1,z6_1_2,-⟩,⟨z6_2_0,z6_2_1,-⟩,-⟩ := hS.cells
 replace G3 := hide ((unhide G3).kept hb6)
 replace G4 := hide ((unhide G4).kept hb6)
 go_wp2_with fail
 refine (unhide hck _ A3 N3 C3 (unhide G3)).mono ?_
 rintro e w7 ⟨rfl,hb7⟩
 replace hS := hS.kept hb7
 clear z6_0_0 z6_0_1 z6_0_2 z6_1_0 z6_1_1 z6_1_2 z6_2_0 z6_2_1
 obtain ⟨⟨z7_0_0,z7_0_1,z7_0_2,-⟩,⟨z7_1_0,z7_1_1,z7_1_2,-⟩,⟨z7_2_0,z7_2_1,-⟩,-⟩ := hS.cells
 replace G3 := hide ((unhide G3).kept hb7)
 replace G4 := hide ((unhide G4).kept hb7)
 go_wp2_with fail
 refine (Double4 _).mono ?_
 rintro e w8 ⟨rfl,hb8⟩
 replace hS := hS.kept hb8
 clear z7_0_0 z7_0_1 z7_0_2 z7_1_0 z7_1_1 z7_1_2 z7_2_0 z7_2_1
 obtain ⟨⟨z8_0_0,z8_0_1,z8_0_2,-⟩,⟨z8_1_0,z8_1_1,z8_1_2,-⟩,⟨z8_2_0,z8_2_1,-⟩,-⟩ := hS.cells
 replace G3 := hide ((unhide G3).kept hb8)
 replace G4 := hide ((unhide G4).kept hb8)
 go_wp2_with fail
 refine (unhide hvx _).mono ?_
 rintro e w9 ⟨rfl,hb9⟩
 replace hS := hS.kept hb9
 clear z8_0_0 z8_0_1 z8_0_2 z8_1_0 z8_1_1 z8_1_2 z8_2_0 z8_2_1
 obtain ⟨⟨z9_0_0,z9_0_1,z9_0_2,-⟩,⟨z9_1_0,z9_1_1,z9_1_2,-⟩,⟨z9_2_0,z9_2_1,-⟩,-⟩ := hS.cells
 replace G3 := hide ((unhide G3).kept hb9)
 replace G4 := hide ((unhide G4).kept hb9)
 have hltw9_0 : w4.heap.size < w9.heap.size := block_lt (hS.bx ⟨w4.heap.size,#[.bool s0,.slice A4 N4 C4,.int .i64 x0],26⟩ (by simp))
 have hltw9_1 : w2.heap.size < w9.heap.size := block_lt (hS.bx ⟨w2.heap.size,#[.bool s0,.slice A3 N3 C3,.int .i64 x0],26⟩ (by simp))
 have hltw9_2 : w.heap.size < w9.heap.size := block_lt (hS.bx ⟨w.heap.size,#[.int .i64 E,.int .i64 F],38⟩ (by simp))
 replace hS := hS.alloc #[.bool false,.slice none 0 0,.int .i64 0] 26
 replace G3 := hide ((unhide G3).alloc (.cells #[.bool false,.slice none 0 0,.int .i64 0] 26))
 replace G4 := hide ((unhide G4).alloc (.cells #[.bool false,.slice none 0 0,.int .i64 0] 26))
 go_wp2_with fail
 refine (Double4 _).mono ?_
 rintro e w10 ⟨rfl,hb10⟩
 replace hS := hS.kept hb10
 clear z9_0_0 z9_0_1 z9_0_2 z9_1_0 z9_1_1 z9_1_2 z9_2_0 z9_2_1
 obtain ⟨⟨z10_0_0,z10_0_1,z10_0_2,-⟩,⟨z10_1_0,z10_1_1,z10_1_2,-⟩,⟨z10_2_0,z10_2_1,z10_2_2,-⟩,⟨z10_3_0,z10_3_1,-⟩,-⟩ := hS.cells
 replace G3 := hide ((unhide G3).kept hb10)
 replace G4 := hide ((unhide G4).kept hb10)
 go_wp2_with fail
 refine (unhide hvy _ ((unhide HT).kept hS.fr)).mono ?_
 rintro e w11 ⟨⟨A2,N2,C2,rfl,f2⟩,hb11⟩
 replace hS := hS.kept hb11
 clear z10_0_0 z10_0_1 z10_0_2 z10_1_0 z10_1_1 z10_1_2 z10_2_0 z10_2_1 z10_2_2 z10_3_0 z10_3_1
 obtain ⟨⟨z11_0_0,z11_0_1,z11_0_2,-⟩,⟨z11_1_0,z11_1_1,z11_1_2,-⟩,⟨z11_2_0,z11_2_1,z11_2_2,-⟩,⟨z11_3_0,z11_3_1,-⟩,-⟩ := hS.cells
 replace G3 := hide ((unhide G3).kept hb11)
 replace G4 := hide ((unhide G4).kept hb11)
 have G2 := hide f2
 clear f2
 have hltw11_0 : w9.heap.size < w11.heap.size := block_lt (hS.bx ⟨w9.heap.size,#[.bool false,.slice none 0 0,.int .i64 0],26⟩ (by simp))
 have hltw11_1 : w4.heap.size < w11.heap.size := block_lt (hS.bx ⟨w4.heap.size,#[.bool s0,.slice A4 N4 C4,.int .i64 x0],26⟩ (by simp))
 have hltw11_2 : w2.heap.size < w11.heap.size := block_lt (hS.bx ⟨w2.heap.size,#[.bool s0,.slice A3 N3 C3,.int .i64 x0],26⟩ (by simp))
 have hltw11_3 : w.heap.size < w11.heap.size := block_lt (hS.bx ⟨w.heap.size,#[.int .i64 E,.int .i64 F],38⟩ (by simp))
 replace hS := hS.alloc #[.bool sy,.slice A2 N2 C2,.int .i64 ey] 26
 replace G3 := hide ((unhide G3).alloc (.cells #[.bool sy,.slice A2 N2 C2,.int .i64 ey] 26))
 replace G4 := hide ((unhide G4).alloc (.cells #[.bool sy,.slice A2 N2 C2,.int .i64 ey] 26))
 replace G2 := hide ((unhide G2).alloc (.cells #[.bool sy,.slice A2 N2 C2,.int .i64 ey] 26))
 go_wp2
 go_ret
 first | exact ⟨rfl,hS.fr⟩ | exact ⟨rfl,hS.fr.drew⟩ | exact ⟨rfl,hS.fr.drew.drew⟩
set_option maxRecDepth 20000 in
set_option maxHeartbeats 8000000 in
theorem xf_B_nn (E F : Int) (b x y : Nat) (s0 : Bool) (m0 bk nn : Nat) (x0 : Int) (gx : Int) (rx : World → Nat) (gy : Int) (ry : World → Nat) (w : World) (hT : Tb w) (hv0 : Hid (∀ W : World,Tb W → Calls Tryd.prog 18 #[.agg #[.int .i64 E,.int .i64 F],.int .u64 b] W fun e w' => (∃ A N C,e = .returned (.tuple #[.agg #[.bool s0,.slice A N C,.int .i64 x0],.int .i64 0]) ∧ Num w' A N m0) ∧ Below W.heap.size W w')) (hbi : Hid (∀ (W : World) (A : Option Addr) (N C : Nat),Num W A N m0 → Calls Tryd.prog 39 #[.agg #[.int .i64 E,.int .i64 F],.agg #[.bool s0,.slice A N C,.int .i64 x0]] W fun e w' => e = .returned (.tuple #[.int .u64 bk,.bool true,.int .i64 0]) ∧ Below W.heap.size W w')) (hv1 : Hid (∀ W : World,Tb W → Calls Tryd.prog 18 #[.agg #[.int .i64 E,.int .i64 F],.int .u64 bk] W fun e w' => (∃ A N C,e = .returned (.tuple #[.agg #[.bool s0,.slice A N C,.int .i64 x0],.int .i64 0]) ∧ Num w' A N m0) ∧ Below W.heap.size W w')) (hno : Hid (∀ W : World,Calls Tryd.prog 40 #[.agg #[.int .i64 E,.int .i64 F],.bool true] W fun e w' => e = .returned (.tuple #[.int .u64 nn,.int .i64 0]) ∧ Below W.heap.size W w')) (hck : Hid (∀ (W : World) (A : Option Addr) (N C : Nat),Num W A N m0 → Calls Tryd.prog 21 #[.agg #[.bool s0,.slice A N C,.int .i64 x0]] W fun e w' => e = .returned (.int .i64 0) ∧ Below W.heap.size W w')) (hbk : ((bk : Int) != (b : Int)) = false) (hvx : Hid (∀ W : World,Calls Tryd.prog 18 #[.agg #[.int .i64 11,.int .i64 52],.int .u64 x] W fun e w' => e = .returned (.tuple #[.agg #[.bool false,.slice none 0 0,.int .i64 0],.int .i64 gx]) ∧ Below W.heap.size W w')) (hgx : (gx == 0) = false) (hgx2 : (gx != 0) = true) (hsx : ∀ W : World,(binOp BinOp.sub 69 (.float .f64 x) (.float .f64 x)).run Tryd.prog W = .ok (.float .f64 (rx W)) W.drew) (hrx : ∀ W,FloatKind.f64.format.order (rx W) 0 = none) (hvy : Hid (∀ W : World,Calls Tryd.prog 18 #[.agg #[.int .i64 11,.int .i64 52],.int .u64 y] W fun e w' => e = .returned (.tuple #[.agg #[.bool false,.slice none 0 0,.int .i64 0],.int .i64 gy]) ∧ Below W.heap.size W w')) (hgy : (gy == 0) = false) (hsy : ∀ W : World,(binOp BinOp.sub 69 (.float .f64 y) (.float .f64 y)).run Tryd.prog W = .ok (.float .f64 (ry W)) W.drew) (hry : ∀ W,FloatKind.f64.format.order (ry W) 0 = none)  :
  Calls Tryd.prog 8 #[.agg #[.int .i64 E,.int .i64 F],.int .u64 b,.int .u64 x,.int .u64 y] w fun e w' => e = .returned (.bool true) ∧ Below w.heap.size w w' := by
 have HT := hide hT
 clear hT
 have x2 := xf_from
 go_enter Tryd.func8,Tryd.ntmps8
 go_wp2_with fail
 refine (alive_any _ (((unhide HT).alloc _))).mono ?_
 rintro e w1 ⟨rfl,hb1⟩
 have hS := (Fs.one w _ _).kept hb1
 obtain ⟨⟨z1_0_0,z1_0_1,-⟩,-⟩ := hS.cells
 go_wp2_with fail
 refine (unhide hv0 _ ((unhide HT).kept hS.fr)).mono ?_
 rintro e w2 ⟨⟨A3,N3,C3,rfl,f3⟩,hb2⟩
 replace hS := hS.kept hb2
 clear z1_0_0 z1_0_1
 obtain ⟨⟨z2_0_0,z2_0_1,-⟩,-⟩ := hS.cells
 have G3 := hide f3
 clear f3
 have hltw2_0 : w.heap.size < w2.heap.size := block_lt (hS.bx ⟨w.heap.size,#[.int .i64 E,.int .i64 F],38⟩ (by simp))
 replace hS := hS.alloc #[.bool s0,.slice A3 N3 C3,.int .i64 x0] 26
 replace G3 := hide ((unhide G3).alloc (.cells #[.bool s0,.slice A3 N3 C3,.int .i64 x0] 26))
 go_wp2_with fail
 refine (unhide hbi _ A3 N3 C3 (unhide G3)).mono ?_
 rintro e w3 ⟨rfl,hb3⟩
 replace hS := hS.kept hb3
 clear z2_0_0 z2_0_1
 obtain ⟨⟨z3_0_0,z3_0_1,z3_0_2,-⟩,⟨z3_1_0,z3_1_1,-⟩,-⟩ := hS.cells
 replace G3 := hide ((unhide G3).kept hb3)
 go_wp2_with fail
 refine (unhide hv1 _ ((unhide HT).kept hS.fr)).mono ?_
 rintro e w4 ⟨⟨A4,N4,C4,rfl,f4⟩,hb4⟩
 replace hS := hS.kept hb4
 clear z3_0_0 z3_0_1 z3_0_2 z3_1_0 z3_1_1
 obtain ⟨⟨z4_0_0,z4_0_1,z4_0_2,-⟩,⟨z4_1_0,z4_1_1,-⟩,-⟩ := hS.cells
 replace G3 := hide ((unhide G3).kept hb4)
 have G4 := hide f4
 clear f4
 have hltw4_0 : w2.heap.size < w4.heap.size := block_lt (hS.bx ⟨w2.heap.size,#[.bool s0,.slice A3 N3 C3,.int .i64 x0],26⟩ (by simp))
 have hltw4_1 : w.heap.size < w4.heap.size := block_lt (hS.bx ⟨w.heap.size,#[.int .i64 E,.int .i64 F],38⟩ (by simp))
 replace hS := hS.alloc #[.bool s0,.slice A4 N4 C4,.int .i64 x0] 26
 replace G3 := hide ((unhide G3).alloc (.cells #[.bool s0,.slice A4 N4 C4,.int .i64 x0] 26))
 replace G4 := hide ((unhide G4).alloc (.cells #[.bool s0,.slice A4 N4 C4,.int .i64 x0] 26))
 go_wp2_with fail
 refine (unhide hno _).mono ?_
 rintro e w5 ⟨rfl,hb5⟩
 replace hS := hS.kept hb5
 clear z4_0_0 z4_0_1 z4_0_2 z4_1_0 z4_1_1
 obtain ⟨⟨z5_0_0,z5_0_1,z5_0_2,-⟩,⟨z5_1_0,z5_1_1,z5_1_2,-⟩,⟨z5_2_0,z5_2_1,-⟩,-⟩ := hS.cells
 replace G3 := hide ((unhide G3).kept hb5)
 replace G4 := hide ((unhide G4).kept hb5)
 go_wp2_with fail
 refine (dsame_any s0 A4 N4 C4 m0 A3 N3 C3 x0 _ (unhide G4) (unhide G3)).mono ?_
 rintro e w6 ⟨rfl,hb6⟩
 replace hS := hS.kept hb6
 clear z5_0_0 z5_0_1 z5_0_2 z5_1_0 z5_1_1 z5_1_2 z5_2_0 z5_2_1
 obtain ⟨⟨z6_0_0,z6_0_1,z6_0_2,-⟩,⟨z6_1_0,z6_1_1,z6_1_2,-⟩,⟨z6_2_0,z6_2_1,-⟩,-⟩ := hS.cells
 replace G3 := hide ((unhide G3).kept hb6)
 replace G4 := hide ((unhide G4).kept hb6)
 go_wp2_with fail
 refine (unhide hck _ A3 N3 C3 (unhide G3)).mono ?_
 rintro e w7 ⟨rfl,hb7⟩
 replace hS := hS.kept hb7
 clear z6_0_0 z6_0_1 z6_0_2 z6_1_0 z6_1_1 z6_1_2 z6_2_0 z6_2_1
 obtain ⟨⟨z7_0_0,z7_0_1,z7_0_2,-⟩,⟨z7_1_0,z7_1_1,z7_1_2,-⟩,⟨z7_2_0,z7_2_1,-⟩,-⟩ := hS.cells
 replace G3 := hide ((unhide G3).kept hb7)
 replace G4 := hide ((unhide G4).kept hb7)
 go_wp2_with fail
 refine (Double4 _).mono ?_
 rintro e w8 ⟨rfl,hb8⟩
 replace hS := hS.kept hb8
 clear z7_0_0 z7_0_1 z7_0_2 z7_1_0 z7_1_1 z7_1_2 z7_2_0 z7_2_1
 obtain ⟨⟨z8_0_0,z8_0_1,z8_0_2,-⟩,⟨z8_1_0,z8_1_1,z8_1_2,-⟩,⟨z8_2_0,z8_2_1,-⟩,-⟩ := hS.cells
 replace G3 := hide ((unhide G3).kept hb8)
 replace G4 := hide ((unhide G4).kept hb8)
 go_wp2_with fail
 refine (unhide hvx _).mono ?_
 rintro e w9 ⟨rfl,hb9⟩
 replace hS := hS.kept hb9
 clear z8_0_0 z8_0_1 z8_0_2 z8_1_0 z8_1_1 z8_1_2 z8_2_0 z8_2_1
 obtain ⟨⟨z9_0_0,z9_0_1,z9_0_2,-⟩,⟨z9_1_0,z9_1_1,z9_1_2,-⟩,⟨z9_2_0,z9_2_1,-⟩,-⟩ := hS.cells
 replace G3 := hide ((unhide G3).kept hb9)
 replace G4 := hide ((unhide G4).kept hb9)
 have hltw9_0 : w4.heap.size < w9.heap.size := block_lt (hS.bx ⟨w4.heap.size,#[.bool s0,.slice A4 N4 C4,.int .i64 x0],26⟩ (by simp))
 have hltw9_1 : w2.heap.size < w9.heap.size := block_lt (hS.bx ⟨w2.heap.size,#[.bool s0,.slice A3 N3 C3,.int .i64 x0],26⟩ (by simp))
 have hltw9_2 : w.heap.size < w9.heap.size := block_lt (hS.bx ⟨w.heap.size,#[.int .i64 E,.int .i64 F],38⟩ (by simp))
 replace hS := hS.alloc #[.bool false,.slice none 0 0,.int .i64 0] 26
 replace G3 := hide ((unhide G3).alloc (.cells #[.bool false,.slice none 0 0,.int .i64 0] 26))
 replace G4 := hide ((unhide G4).alloc (.cells #[.bool false,.slice none 0 0,.int .i64 0] 26))
 go_wp2_with fail
 refine (Double4 _).mono ?_
 rintro e w10 ⟨rfl,hb10⟩
 replace hS := hS.kept hb10
 clear z9_0_0 z9_0_1 z9_0_2 z9_1_0 z9_1_1 z9_1_2 z9_2_0 z9_2_1
 obtain ⟨⟨z10_0_0,z10_0_1,z10_0_2,-⟩,⟨z10_1_0,z10_1_1,z10_1_2,-⟩,⟨z10_2_0,z10_2_1,z10_2_2,-⟩,⟨z10_3_0,z10_3_1,-⟩,-⟩ := hS.cells
 replace G3 := hide ((unhide G3).kept hb10)
 replace G4 := hide ((unhide G4).kept hb10)
 go_wp2_with fail
 refine (unhide hvy _).mono ?_
 rintro e w11 ⟨rfl,hb11⟩
 replace hS := hS.kept hb11
 clear z10_0_0 z10_0_1 z10_0_2 z10_1_0 z10_1_1 z10_1_2 z10_2_0 z10_2_1 z10_2_2 z10_3_0 z10_3_1
 obtain ⟨⟨z11_0_0,z11_0_1,z11_0_2,-⟩,⟨z11_1_0,z11_1_1,z11_1_2,-⟩,⟨z11_2_0,z11_2_1,z11_2_2,-⟩,⟨z11_3_0,z11_3_1,-⟩,-⟩ := hS.cells
 replace G3 := hide ((unhide G3).kept hb11)
 replace G4 := hide ((unhide G4).kept hb11)
 have hltw11_0 : w9.heap.size < w11.heap.size := block_lt (hS.bx ⟨w9.heap.size,#[.bool false,.slice none 0 0,.int .i64 0],26⟩ (by simp))
 have hltw11_1 : w4.heap.size < w11.heap.size := block_lt (hS.bx ⟨w4.heap.size,#[.bool s0,.slice A4 N4 C4,.int .i64 x0],26⟩ (by simp))
 have hltw11_2 : w2.heap.size < w11.heap.size := block_lt (hS.bx ⟨w2.heap.size,#[.bool s0,.slice A3 N3 C3,.int .i64 x0],26⟩ (by simp))
 have hltw11_3 : w.heap.size < w11.heap.size := block_lt (hS.bx ⟨w.heap.size,#[.int .i64 E,.int .i64 F],38⟩ (by simp))
 replace hS := hS.alloc #[.bool false,.slice none 0 0,.int .i64 0] 26
 replace G3 := hide ((unhide G3).alloc (.cells #[.bool false,.slice none 0 0,.int .i64 0] 26))
 replace G4 := hide ((unhide G4).alloc (.cells #[.bool false,.slice none 0 0,.int .i64 0] 26))
 go_wp2
 go_ret
 first | exact ⟨rfl,hS.fr⟩ | exact ⟨rfl,hS.fr.drew⟩ | exact ⟨rfl,hS.fr.drew.drew⟩
end Go.Proofs.YtjemjhaphannaaaDoor
namespace Go.Proofs.YtjemjhaphannaaaDoor
open Go.RowKit
set_option maxRecDepth 20000 in
set_option maxHeartbeats 8000000 in
theorem xf_C_lt (E F : Int) (b x y : Nat) (s0 : Bool) (m0 bk nn : Nat) (x0 : Int) (sx : Bool) (mx : Nat) (ex : Int) (sy : Bool) (my : Nat) (ey : Int) (w : World) (hT : Tb w) (hv0 : Hid (∀ W : World,Tb W → Calls Tryd.prog 18 #[.agg #[.int .i64 E,.int .i64 F],.int .u64 b] W fun e w' => (∃ A N C,e = .returned (.tuple #[.agg #[.bool s0,.slice A N C,.int .i64 x0],.int .i64 0]) ∧ Num w' A N m0) ∧ Below W.heap.size W w')) (hbi : Hid (∀ (W : World) (A : Option Addr) (N C : Nat),Num W A N m0 → Calls Tryd.prog 39 #[.agg #[.int .i64 E,.int .i64 F],.agg #[.bool s0,.slice A N C,.int .i64 x0]] W fun e w' => e = .returned (.tuple #[.int .u64 bk,.bool true,.int .i64 0]) ∧ Below W.heap.size W w')) (hv1 : Hid (∀ W : World,Tb W → Calls Tryd.prog 18 #[.agg #[.int .i64 E,.int .i64 F],.int .u64 bk] W fun e w' => (∃ A N C,e = .returned (.tuple #[.agg #[.bool s0,.slice A N C,.int .i64 x0],.int .i64 0]) ∧ Num w' A N m0) ∧ Below W.heap.size W w')) (hno : Hid (∀ W : World,Calls Tryd.prog 40 #[.agg #[.int .i64 E,.int .i64 F],.bool true] W fun e w' => e = .returned (.tuple #[.int .u64 nn,.int .i64 0]) ∧ Below W.heap.size W w')) (hck : Hid (∀ (W : World) (A : Option Addr) (N C : Nat),Num W A N m0 → Calls Tryd.prog 21 #[.agg #[.bool s0,.slice A N C,.int .i64 x0]] W fun e w' => e = .returned (.int .i64 0) ∧ Below W.heap.size W w')) (hbk : ((bk : Int) != (b : Int)) = true) (hbn : ((b : Int) != (nn : Int)) = false) (hb0 : ((bk : Int) != 0) = false) (hvx : Hid (∀ W : World,Tb W → Calls Tryd.prog 18 #[.agg #[.int .i64 11,.int .i64 52],.int .u64 x] W fun e w' => (∃ A N C,e = .returned (.tuple #[.agg #[.bool sx,.slice A N C,.int .i64 ex],.int .i64 0]) ∧ Num w' A N mx) ∧ Below W.heap.size W w')) (hsx : ∀ W : World,(binOp BinOp.sub 69 (.float .f64 x) (.float .f64 x)).run Tryd.prog W = .ok (.float .f64 0) W) (hvy : Hid (∀ W : World,Tb W → Calls Tryd.prog 18 #[.agg #[.int .i64 11,.int .i64 52],.int .u64 y] W fun e w' => (∃ A N C,e = .returned (.tuple #[.agg #[.bool sy,.slice A N C,.int .i64 ey],.int .i64 0]) ∧ Num w' A N my) ∧ Below W.heap.size W w')) (hsy : ∀ W : World,(binOp BinOp.sub 69 (.float .f64 y) (.float .f64 y)).run Tryd.prog W = .ok (.float .f64 0) W) (hcm : Hid (∀ (W : World) (A : Option Addr) (N C : Nat) (A' : Option Addr) (N' C' : Nat),Num W A N mx → Num W A' N' my → Calls Tryd.prog 17 #[.agg #[.bool sx,.slice A N C,.int .i64 ex],.agg #[.bool sy,.slice A' N' C',.int .i64 ey]] W fun e w' => e = .returned (.tuple #[.int .i64 (-1),.int .i64 0]) ∧ Below W.heap.size W w')) (hord : FloatKind.f64.format.order x y = some .lt) :
  Calls Tryd.prog 8 #[.agg #[.int .i64 E,.int .i64 F],.int .u64 b,.int .u64 x,.int .u64 y] w fun e w' => e = .returned (.bool true) ∧ Below w.heap.size w w' := by
 have HT := hide hT
 clear hT
 have x2 := xf_from
 go_enter Tryd.func8,Tryd.ntmps8
 go_wp2_with fail
 refine (alive_any _ (((unhide HT).alloc _))).mono ?_
 rintro e w1 ⟨rfl,hb1⟩
 have hS := (Fs.one w _ _).kept hb1
 obtain ⟨⟨z1_0_0,z1_0_1,-⟩,-⟩ := hS.cells
 go_wp2_with fail
 refine (unhide hv0 _ ((unhide HT).kept hS.fr)).mono ?_
 rintro e w2 ⟨⟨A3,N3,C3,rfl,f3⟩,hb2⟩
 replace hS := hS.kept hb2
 clear z1_0_0 z1_0_1
 obtain ⟨⟨z2_0_0,z2_0_1,-⟩,-⟩ := hS.cells
 have G3 := hide f3
 clear f3
 have hltw2_0 : w.heap.size < w2.heap.size := block_lt (hS.bx ⟨w.heap.size,#[.int .i64 E,.int .i64 F],38⟩ (by simp))
 replace hS := hS.alloc #[.bool s0,.slice A3 N3 C3,.int .i64 x0] 26
 replace G3 := hide ((unhide G3).alloc (.cells #[.bool s0,.slice A3 N3 C3,.int .i64 x0] 26))
 go_wp2_with fail
 refine (unhide hbi _ A3 N3 C3 (unhide G3)).mono ?_
 rintro e w3 ⟨rfl,hb3⟩
 replace hS := hS.kept hb3
 clear z2_0_0 z2_0_1
 obtain ⟨⟨z3_0_0,z3_0_1,z3_0_2,-⟩,⟨z3_1_0,z3_1_1,-⟩,-⟩ := hS.cells
 replace G3 := hide ((unhide G3).kept hb3)
 go_wp2_with fail
 refine (unhide hv1 _ ((unhide HT).kept hS.fr)).mono ?_
 rintro e w4 ⟨⟨A4,N4,C4,rfl,f4⟩,hb4⟩
 replace hS := hS.kept hb4
 clear z3_0_0 z3_0_1 z3_0_2 z3_1_0 z3_1_1
 obtain ⟨⟨z4_0_0,z4_0_1,z4_0_2,-⟩,⟨z4_1_0,z4_1_1,-⟩,-⟩ := hS.cells
 replace G3 := hide ((unhide G3).kept hb4)
 have G4 := hide f4
 clear f4
 have hltw4_0 : w2.heap.size < w4.heap.size := block_lt (hS.bx ⟨w2.heap.size,#[.bool s0,.slice A3 N3 C3,.int .i64 x0],26⟩ (by simp))
 have hltw4_1 : w.heap.size < w4.heap.size := block_lt (hS.bx ⟨w.heap.size,#[.int .i64 E,.int .i64 F],38⟩ (by simp))
 replace hS := hS.alloc #[.bool s0,.slice A4 N4 C4,.int .i64 x0] 26
 replace G3 := hide ((unhide G3).alloc (.cells #[.bool s0,.slice A4 N4 C4,.int .i64 x0] 26))
 replace G4 := hide ((unhide G4).alloc (.cells #[.bool s0,.slice A4 N4 C4,.int .i64 x0] 26))
 go_wp2_with fail
 refine (unhide hno _).mono ?_
 rintro e w5 ⟨rfl,hb5⟩
 replace hS := hS.kept hb5
 clear z4_0_0 z4_0_1 z4_0_2 z4_1_0 z4_1_1
 obtain ⟨⟨z5_0_0,z5_0_1,z5_0_2,-⟩,⟨z5_1_0,z5_1_1,z5_1_2,-⟩,⟨z5_2_0,z5_2_1,-⟩,-⟩ := hS.cells
 replace G3 := hide ((unhide G3).kept hb5)
 replace G4 := hide ((unhide G4).kept hb5)
 go_wp2_with fail
 refine (dsame_any s0 A4 N4 C4 m0 A3 N3 C3 x0 _ (unhide G4) (unhide G3)).mono ?_
 rintro e w6 ⟨rfl,hb6⟩
 replace hS := hS.kept hb6
 clear z5_0_0 z5_0_1 z5_0_2 z5_1_0 z5_1_1 z5_1_2 z5_2_0 z5_2_1
 obtain ⟨⟨z6_0_0,z6_0_1,z6_0_2,-⟩,⟨z6_1_0,z6_1_1,z6_1_2,-⟩,⟨z6_2_0,z6_2_1,-⟩,-⟩ := hS.cells
 replace G3 := hide ((unhide G3).kept hb6)
 replace G4 := hide ((unhide G4).kept hb6)
 go_wp2_with fail
 refine (unhide hck _ A3 N3 C3 (unhide G3)).mono ?_
 rintro e w7 ⟨rfl,hb7⟩
 replace hS := hS.kept hb7
 clear z6_0_0 z6_0_1 z6_0_2 z6_1_0 z6_1_1 z6_1_2 z6_2_0 z6_2_1
 obtain ⟨⟨z7_0_0,z7_0_1,z7_0_2,-⟩,⟨z7_1_0,z7_1_1,z7_1_2,-⟩,⟨z7_2_0,z7_2_1,-⟩,-⟩ := hS.cells
 replace G3 := hide ((unhide G3).kept hb7)
 replace G4 := hide ((unhide G4).kept hb7)
 go_wp2_with fail
 refine (Double4 _).mono ?_
 rintro e w8 ⟨rfl,hb8⟩
 replace hS := hS.kept hb8
 clear z7_0_0 z7_0_1 z7_0_2 z7_1_0 z7_1_1 z7_1_2 z7_2_0 z7_2_1
 obtain ⟨⟨z8_0_0,z8_0_1,z8_0_2,-⟩,⟨z8_1_0,z8_1_1,z8_1_2,-⟩,⟨z8_2_0,z8_2_1,-⟩,-⟩ := hS.cells
 replace G3 := hide ((unhide G3).kept hb8)
 replace G4 := hide ((unhide G4).kept hb8)
 go_wp2_with fail
 refine (unhide hvx _ ((unhide HT).kept hS.fr)).mono ?_
 rintro e w9 ⟨⟨A1,N1,C1,rfl,f1⟩,hb9⟩
 replace hS := hS.kept hb9
 clear z8_0_0 z8_0_1 z8_0_2 z8_1_0 z8_1_1 z8_1_2 z8_2_0 z8_2_1
 obtain ⟨⟨z9_0_0,z9_0_1,z9_0_2,-⟩,⟨z9_1_0,z9_1_1,z9_1_2,-⟩,⟨z9_2_0,z9_2_1,-⟩,-⟩ := hS.cells
 replace G3 := hide ((unhide G3).kept hb9)
 replace G4 := hide ((unhide G4).kept hb9)
 have G1 := hide f1
 clear f1
 have hltw9_0 : w4.heap.size < w9.heap.size := block_lt (hS.bx ⟨w4.heap.size,#[.bool s0,.slice A4 N4 C4,.int .i64 x0],26⟩ (by simp))
 have hltw9_1 : w2.heap.size < w9.heap.size := block_lt (hS.bx ⟨w2.heap.size,#[.bool s0,.slice A3 N3 C3,.int .i64 x0],26⟩ (by simp))
 have hltw9_2 : w.heap.size < w9.heap.size := block_lt (hS.bx ⟨w.heap.size,#[.int .i64 E,.int .i64 F],38⟩ (by simp))
 replace hS := hS.alloc #[.bool sx,.slice A1 N1 C1,.int .i64 ex] 26
 replace G3 := hide ((unhide G3).alloc (.cells #[.bool sx,.slice A1 N1 C1,.int .i64 ex] 26))
 replace G4 := hide ((unhide G4).alloc (.cells #[.bool sx,.slice A1 N1 C1,.int .i64 ex] 26))
 replace G1 := hide ((unhide G1).alloc (.cells #[.bool sx,.slice A1 N1 C1,.int .i64 ex] 26))
 go_wp2_with fail
 refine (Double4 _).mono ?_
 rintro e w10 ⟨rfl,hb10⟩
 replace hS := hS.kept hb10
 clear z9_0_0 z9_0_1 z9_0_2 z9_1_0 z9_1_1 z9_1_2 z9_2_0 z9_2_1
 obtain ⟨⟨z10_0_0,z10_0_1,z10_0_2,-⟩,⟨z10_1_0,z10_1_1,z10_1_2,-⟩,⟨z10_2_0,z10_2_1,z10_2_2,-⟩,⟨z10_3_0,z10_3_1,-⟩,-⟩ := hS.cells
 replace G3 := hide ((unhide G3).kept hb10)
 replace G4 := hide ((unhide G4).kept hb10)
 replace G1 := hide ((unhide G1).kept hb10)
 go_wp2_with fail
 refine (unhide hvy _ ((unhide HT).kept hS.fr)).mono ?_
 rintro e w11 ⟨⟨A2,N2,C2,rfl,f2⟩,hb11⟩
 replace hS := hS.kept hb11
 clear z10_0_0 z10_0_1 z10_0_2 z10_1_0 z10_1_1 z10_1_2 z10_2_0 z10_2_1 z10_2_2 z10_3_0 z10_3_1
 obtain ⟨⟨z11_0_0,z11_0_1,z11_0_2,-⟩,⟨z11_1_0,z11_1_1,z11_1_2,-⟩,⟨z11_2_0,z11_2_1,z11_2_2,-⟩,⟨z11_3_0,z11_3_1,-⟩,-⟩ := hS.cells
 replace G3 := hide ((unhide G3).kept hb11)
 replace G4 := hide ((unhide G4).kept hb11)
 replace G1 := hide ((unhide G1).kept hb11)
 have G2 := hide f2
 clear f2
 have hltw11_0 : w9.heap.size < w11.heap.size := block_lt (hS.bx ⟨w9.heap.size,#[.bool sx,.slice A1 N1 C1,.int .i64 ex],26⟩ (by simp))
 have hltw11_1 : w4.heap.size < w11.heap.size := block_lt (hS.bx ⟨w4.heap.size,#[.bool s0,.slice A4 N4 C4,.int .i64 x0],26⟩ (by simp))
 have hltw11_2 : w2.heap.size < w11.heap.size := block_lt (hS.bx ⟨w2.heap.size,#[.bool s0,.slice A3 N3 C3,.int .i64 x0],26⟩ (by simp))
 have hltw11_3 : w.heap.size < w11.heap.size := block_lt (hS.bx ⟨w.heap.size,#[.int .i64 E,.int .i64 F],38⟩ (by simp))
 replace hS := hS.alloc #[.bool sy,.slice A2 N2 C2,.int .i64 ey] 26
 replace G3 := hide ((unhide G3).alloc (.cells #[.bool sy,.slice A2 N2 C2,.int .i64 ey] 26))
 replace G4 := hide ((unhide G4).alloc (.cells #[.bool sy,.slice A2 N2 C2,.int .i64 ey] 26))
 replace G1 := hide ((unhide G1).alloc (.cells #[.bool sy,.slice A2 N2 C2,.int .i64 ey] 26))
 replace G2 := hide ((unhide G2).alloc (.cells #[.bool sy,.slice A2 N2 C2,.int .i64 ey] 26))
 go_wp2_with fail
 refine (unhide hcm _ A1 N1 C1 A2 N2 C2 (unhide G1) (unhide G2)).mono ?_
 rintro e w12 ⟨rfl,hb12⟩
 replace hS := hS.kept hb12
 clear z11_0_0 z11_0_1 z11_0_2 z11_1_0 z11_1_1 z11_1_2 z11_2_0 z11_2_1 z11_2_2 z11_3_0 z11_3_1
 obtain ⟨⟨z12_0_0,z12_0_1,z12_0_2,-⟩,⟨z12_1_0,z12_1_1,z12_1_2,-⟩,⟨z12_2_0,z12_2_1,z12_2_2,-⟩,⟨z12_3_0,z12_3_1,z12_3_2,-⟩,⟨z12_4_0,z12_4_1,-⟩,-⟩ := hS.cells
 replace G3 := hide ((unhide G3).kept hb12)
 replace G4 := hide ((unhide G4).kept hb12)
 replace G1 := hide ((unhide G1).kept hb12)
 replace G2 := hide ((unhide G2).kept hb12)
 go_wp2
 go_ret
 first | exact ⟨rfl,hS.fr⟩ | exact ⟨rfl,hS.fr.drew⟩ | exact ⟨rfl,hS.fr.drew.drew⟩
set_option maxRecDepth 20000 in
set_option maxHeartbeats 8000000 in
theorem xf_C_eq (E F : Int) (b x y : Nat) (s0 : Bool) (m0 bk nn : Nat) (x0 : Int) (sx : Bool) (mx : Nat) (ex : Int) (sy : Bool) (my : Nat) (ey : Int) (w : World) (hT : Tb w) (hv0 : Hid (∀ W : World,Tb W → Calls Tryd.prog 18 #[.agg #[.int .i64 E,.int .i64 F],.int .u64 b] W fun e w' => (∃ A N C,e = .returned (.tuple #[.agg #[.bool s0,.slice A N C,.int .i64 x0],.int .i64 0]) ∧ Num w' A N m0) ∧ Below W.heap.size W w')) (hbi : Hid (∀ (W : World) (A : Option Addr) (N C : Nat),Num W A N m0 → Calls Tryd.prog 39 #[.agg #[.int .i64 E,.int .i64 F],.agg #[.bool s0,.slice A N C,.int .i64 x0]] W fun e w' => e = .returned (.tuple #[.int .u64 bk,.bool true,.int .i64 0]) ∧ Below W.heap.size W w')) (hv1 : Hid (∀ W : World,Tb W → Calls Tryd.prog 18 #[.agg #[.int .i64 E,.int .i64 F],.int .u64 bk] W fun e w' => (∃ A N C,e = .returned (.tuple #[.agg #[.bool s0,.slice A N C,.int .i64 x0],.int .i64 0]) ∧ Num w' A N m0) ∧ Below W.heap.size W w')) (hno : Hid (∀ W : World,Calls Tryd.prog 40 #[.agg #[.int .i64 E,.int .i64 F],.bool true] W fun e w' => e = .returned (.tuple #[.int .u64 nn,.int .i64 0]) ∧ Below W.heap.size W w')) (hck : Hid (∀ (W : World) (A : Option Addr) (N C : Nat),Num W A N m0 → Calls Tryd.prog 21 #[.agg #[.bool s0,.slice A N C,.int .i64 x0]] W fun e w' => e = .returned (.int .i64 0) ∧ Below W.heap.size W w')) (hbk : ((bk : Int) != (b : Int)) = true) (hbn : ((b : Int) != (nn : Int)) = false) (hb0 : ((bk : Int) != 0) = false) (hvx : Hid (∀ W : World,Tb W → Calls Tryd.prog 18 #[.agg #[.int .i64 11,.int .i64 52],.int .u64 x] W fun e w' => (∃ A N C,e = .returned (.tuple #[.agg #[.bool sx,.slice A N C,.int .i64 ex],.int .i64 0]) ∧ Num w' A N mx) ∧ Below W.heap.size W w')) (hsx : ∀ W : World,(binOp BinOp.sub 69 (.float .f64 x) (.float .f64 x)).run Tryd.prog W = .ok (.float .f64 0) W) (hvy : Hid (∀ W : World,Tb W → Calls Tryd.prog 18 #[.agg #[.int .i64 11,.int .i64 52],.int .u64 y] W fun e w' => (∃ A N C,e = .returned (.tuple #[.agg #[.bool sy,.slice A N C,.int .i64 ey],.int .i64 0]) ∧ Num w' A N my) ∧ Below W.heap.size W w')) (hsy : ∀ W : World,(binOp BinOp.sub 69 (.float .f64 y) (.float .f64 y)).run Tryd.prog W = .ok (.float .f64 0) W) (hcm : Hid (∀ (W : World) (A : Option Addr) (N C : Nat) (A' : Option Addr) (N' C' : Nat),Num W A N mx → Num W A' N' my → Calls Tryd.prog 17 #[.agg #[.bool sx,.slice A N C,.int .i64 ex],.agg #[.bool sy,.slice A' N' C',.int .i64 ey]] W fun e w' => e = .returned (.tuple #[.int .i64 0,.int .i64 0]) ∧ Below W.heap.size W w')) (hord : FloatKind.f64.format.order x y = some .eq) :
  Calls Tryd.prog 8 #[.agg #[.int .i64 E,.int .i64 F],.int .u64 b,.int .u64 x,.int .u64 y] w fun e w' => e = .returned (.bool true) ∧ Below w.heap.size w w' := by
 have HT := hide hT
 clear hT
 have x2 := xf_from
 go_enter Tryd.func8,Tryd.ntmps8
 go_wp2_with fail
 refine (alive_any _ (((unhide HT).alloc _))).mono ?_
 rintro e w1 ⟨rfl,hb1⟩
 have hS := (Fs.one w _ _).kept hb1
 obtain ⟨⟨z1_0_0,z1_0_1,-⟩,-⟩ := hS.cells
 go_wp2_with fail
 refine (unhide hv0 _ ((unhide HT).kept hS.fr)).mono ?_
 rintro e w2 ⟨⟨A3,N3,C3,rfl,f3⟩,hb2⟩
 replace hS := hS.kept hb2
 clear z1_0_0 z1_0_1
 obtain ⟨⟨z2_0_0,z2_0_1,-⟩,-⟩ := hS.cells
 have G3 := hide f3
 clear f3
 have hltw2_0 : w.heap.size < w2.heap.size := block_lt (hS.bx ⟨w.heap.size,#[.int .i64 E,.int .i64 F],38⟩ (by simp))
 replace hS := hS.alloc #[.bool s0,.slice A3 N3 C3,.int .i64 x0] 26
 replace G3 := hide ((unhide G3).alloc (.cells #[.bool s0,.slice A3 N3 C3,.int .i64 x0] 26))
 go_wp2_with fail
 refine (unhide hbi _ A3 N3 C3 (unhide G3)).mono ?_
 rintro e w3 ⟨rfl,hb3⟩
 replace hS := hS.kept hb3
 clear z2_0_0 z2_0_1
 obtain ⟨⟨z3_0_0,z3_0_1,z3_0_2,-⟩,⟨z3_1_0,z3_1_1,-⟩,-⟩ := hS.cells
 replace G3 := hide ((unhide G3).kept hb3)
 go_wp2_with fail
 refine (unhide hv1 _ ((unhide HT).kept hS.fr)).mono ?_
 rintro e w4 ⟨⟨A4,N4,C4,rfl,f4⟩,hb4⟩
 replace hS := hS.kept hb4
 clear z3_0_0 z3_0_1 z3_0_2 z3_1_0 z3_1_1
 obtain ⟨⟨z4_0_0,z4_0_1,z4_0_2,-⟩,⟨z4_1_0,z4_1_1,-⟩,-⟩ := hS.cells
 replace G3 := hide ((unhide G3).kept hb4)
 have G4 := hide f4
 clear f4
 have hltw4_0 : w2.heap.size < w4.heap.size := block_lt (hS.bx ⟨w2.heap.size,#[.bool s0,.slice A3 N3 C3,.int .i64 x0],26⟩ (by simp))
 have hltw4_1 : w.heap.size < w4.heap.size := block_lt (hS.bx ⟨w.heap.size,#[.int .i64 E,.int .i64 F],38⟩ (by simp))
 replace hS := hS.alloc #[.bool s0,.slice A4 N4 C4,.int .i64 x0] 26
 replace G3 := hide ((unhide G3).alloc (.cells #[.bool s0,.slice A4 N4 C4,.int .i64 x0] 26))
 replace G4 := hide ((unhide G4).alloc (.cells #[.bool s0,.slice A4 N4 C4,.int .i64 x0] 26))
 go_wp2_with fail
 refine (unhide hno _).mono ?_
 rintro e w5 ⟨rfl,hb5⟩
 replace hS := hS.kept hb5
 clear z4_0_0 z4_0_1 z4_0_2 z4_1_0 z4_1_1
 obtain ⟨⟨z5_0_0,z5_0_1,z5_0_2,-⟩,⟨z5_1_0,z5_1_1,z5_1_2,-⟩,⟨z5_2_0,z5_2_1,-⟩,-⟩ := hS.cells
 replace G3 := hide ((unhide G3).kept hb5)
 replace G4 := hide ((unhide G4).kept hb5)
 go_wp2_with fail
 refine (dsame_any s0 A4 N4 C4 m0 A3 N3 C3 x0 _ (unhide G4) (unhide G3)).mono ?_
 rintro e w6 ⟨rfl,hb6⟩
 replace hS := hS.kept hb6
 clear z5_0_0 z5_0_1 z5_0_2 z5_1_0 z5_1_1 z5_1_2 z5_2_0 z5_2_1
 obtain ⟨⟨z6_0_0,z6_0_1,z6_0_2,-⟩,⟨z6_1_0,z6_1_1,z6_1_2,-⟩,⟨z6_2_0,z6_2_1,-⟩,-⟩ := hS.cells
 replace G3 := hide ((unhide G3).kept hb6)
 replace G4 := hide ((unhide G4).kept hb6)
 go_wp2_with fail
 refine (unhide hck _ A3 N3 C3 (unhide G3)).mono ?_
 rintro e w7 ⟨rfl,hb7⟩
 replace hS := hS.kept hb7
 clear z6_0_0 z6_0_1 z6_0_2 z6_1_0 z6_1_1 z6_1_2 z6_2_0 z6_2_1
 obtain ⟨⟨z7_0_0,z7_0_1,z7_0_2,-⟩,⟨z7_1_0,z7_1_1,z7_1_2,-⟩,⟨z7_2_0,z7_2_1,-⟩,-⟩ := hS.cells
 replace G3 := hide ((unhide G3).kept hb7)
 replace G4 := hide ((unhide G4).kept hb7)
 go_wp2_with fail
 refine (Double4 _).mono ?_
 rintro e w8 ⟨rfl,hb8⟩
 replace hS := hS.kept hb8
 clear z7_0_0 z7_0_1 z7_0_2 z7_1_0 z7_1_1 z7_1_2 z7_2_0 z7_2_1
 obtain ⟨⟨z8_0_0,z8_0_1,z8_0_2,-⟩,⟨z8_1_0,z8_1_1,z8_1_2,-⟩,⟨z8_2_0,z8_2_1,-⟩,-⟩ := hS.cells
 replace G3 := hide ((unhide G3).kept hb8)
 replace G4 := hide ((unhide G4).kept hb8)
 go_wp2_with fail
 refine (unhide hvx _ ((unhide HT).kept hS.fr)).mono ?_
 rintro e w9 ⟨⟨A1,N1,C1,rfl,f1⟩,hb9⟩
 replace hS := hS.kept hb9
 clear z8_0_0 z8_0_1 z8_0_2 z8_1_0 z8_1_1 z8_1_2 z8_2_0 z8_2_1
 obtain ⟨⟨z9_0_0,z9_0_1,z9_0_2,-⟩,⟨z9_1_0,z9_1_1,z9_1_2,-⟩,⟨z9_2_0,z9_2_1,-⟩,-⟩ := hS.cells
 replace G3 := hide ((unhide G3).kept hb9)
 replace G4 := hide ((unhide G4).kept hb9)
 have G1 := hide f1
 clear f1
 have hltw9_0 : w4.heap.size < w9.heap.size := block_lt (hS.bx ⟨w4.heap.size,#[.bool s0,.slice A4 N4 C4,.int .i64 x0],26⟩ (by simp))
 have hltw9_1 : w2.heap.size < w9.heap.size := block_lt (hS.bx ⟨w2.heap.size,#[.bool s0,.slice A3 N3 C3,.int .i64 x0],26⟩ (by simp))
 have hltw9_2 : w.heap.size < w9.heap.size := block_lt (hS.bx ⟨w.heap.size,#[.int .i64 E,.int .i64 F],38⟩ (by simp))
 replace hS := hS.alloc #[.bool sx,.slice A1 N1 C1,.int .i64 ex] 26
 replace G3 := hide ((unhide G3).alloc (.cells #[.bool sx,.slice A1 N1 C1,.int .i64 ex] 26))
 replace G4 := hide ((unhide G4).alloc (.cells #[.bool sx,.slice A1 N1 C1,.int .i64 ex] 26))
 replace G1 := hide ((unhide G1).alloc (.cells #[.bool sx,.slice A1 N1 C1,.int .i64 ex] 26))
 go_wp2_with fail
 refine (Double4 _).mono ?_
 rintro e w10 ⟨rfl,hb10⟩
 replace hS := hS.kept hb10
 clear z9_0_0 z9_0_1 z9_0_2 z9_1_0 z9_1_1 z9_1_2 z9_2_0 z9_2_1
 obtain ⟨⟨z10_0_0,z10_0_1,z10_0_2,-⟩,⟨z10_1_0,z10_1_1,z10_1_2,-⟩,⟨z10_2_0,z10_2_1,z10_2_2,-⟩,⟨z10_3_0,z10_3_1,-⟩,-⟩ := hS.cells
 replace G3 := hide ((unhide G3).kept hb10)
 replace G4 := hide ((unhide G4).kept hb10)
 replace G1 := hide ((unhide G1).kept hb10)
 go_wp2_with fail
 refine (unhide hvy _ ((unhide HT).kept hS.fr)).mono ?_
 rintro e w11 ⟨⟨A2,N2,C2,rfl,f2⟩,hb11⟩
 replace hS := hS.kept hb11
 clear z10_0_0 z10_0_1 z10_0_2 z10_1_0 z10_1_1 z10_1_2 z10_2_0 z10_2_1 z10_2_2 z10_3_0 z10_3_1
 obtain ⟨⟨z11_0_0,z11_0_1,z11_0_2,-⟩,⟨z11_1_0,z11_1_1,z11_1_2,-⟩,⟨z11_2_0,z11_2_1,z11_2_2,-⟩,⟨z11_3_0,z11_3_1,-⟩,-⟩ := hS.cells
 replace G3 := hide ((unhide G3).kept hb11)
 replace G4 := hide ((unhide G4).kept hb11)
 replace G1 := hide ((unhide G1).kept hb11)
 have G2 := hide f2
 clear f2
 have hltw11_0 : w9.heap.size < w11.heap.size := block_lt (hS.bx ⟨w9.heap.size,#[.bool sx,.slice A1 N1 C1,.int .i64 ex],26⟩ (by simp))
 have hltw11_1 : w4.heap.size < w11.heap.size := block_lt (hS.bx ⟨w4.heap.size,#[.bool s0,.slice A4 N4 C4,.int .i64 x0],26⟩ (by simp))
 have hltw11_2 : w2.heap.size < w11.heap.size := block_lt (hS.bx ⟨w2.heap.size,#[.bool s0,.slice A3 N3 C3,.int .i64 x0],26⟩ (by simp))
 have hltw11_3 : w.heap.size < w11.heap.size := block_lt (hS.bx ⟨w.heap.size,#[.int .i64 E,.int .i64 F],38⟩ (by simp))
 replace hS := hS.alloc #[.bool sy,.slice A2 N2 C2,.int .i64 ey] 26
 replace G3 := hide ((unhide G3).alloc (.cells #[.bool sy,.slice A2 N2 C2,.int .i64 ey] 26))
 replace G4 := hide ((unhide G4).alloc (.cells #[.bool sy,.slice A2 N2 C2,.int .i64 ey] 26))
 replace G1 := hide ((unhide G1).alloc (.cells #[.bool sy,.slice A2 N2 C2,.int .i64 ey] 26))
 replace G2 := hide ((unhide G2).alloc (.cells #[.bool sy,.slice A2 N2 C2,.int .i64 ey] 26))
 go_wp2_with fail
 refine (unhide hcm _ A1 N1 C1 A2 N2 C2 (unhide G1) (unhide G2)).mono ?_
 rintro e w12 ⟨rfl,hb12⟩
 replace hS := hS.kept hb12
 clear z11_0_0 z11_0_1 z11_0_2 z11_1_0 z11_1_1 z11_1_2 z11_2_0 z11_2_1 z11_2_2 z11_3_0 z11_3_1
 obtain ⟨⟨z12_0_0,z12_0_1,z12_0_2,-⟩,⟨z12_1_0,z12_1_1,z12_1_2,-⟩,⟨z12_2_0,z12_2_1,z12_2_2,-⟩,⟨z12_3_0,z12_3_1,z12_3_2,-⟩,⟨z12_4_0,z12_4_1,-⟩,-⟩ := hS.cells
 replace G3 := hide ((unhide G3).kept hb12)
 replace G4 := hide ((unhide G4).kept hb12)
 replace G1 := hide ((unhide G1).kept hb12)
 replace G2 := hide ((unhide G2).kept hb12)
 go_wp2
 go_ret
 first | exact ⟨rfl,hS.fr⟩ | exact ⟨rfl,hS.fr.drew⟩ | exact ⟨rfl,hS.fr.drew.drew⟩
set_option maxRecDepth 20000 in
set_option maxHeartbeats 8000000 in
theorem xf_C_gt (E F : Int) (b x y : Nat) (s0 : Bool) (m0 bk nn : Nat) (x0 : Int) (sx : Bool) (mx : Nat) (ex : Int) (sy : Bool) (my : Nat) (ey : Int) (w : World) (hT : Tb w) (hv0 : Hid (∀ W : World,Tb W → Calls Tryd.prog 18 #[.agg #[.int .i64 E,.int .i64 F],.int .u64 b] W fun e w' => (∃ A N C,e = .returned (.tuple #[.agg #[.bool s0,.slice A N C,.int .i64 x0],.int .i64 0]) ∧ Num w' A N m0) ∧ Below W.heap.size W w')) (hbi : Hid (∀ (W : World) (A : Option Addr) (N C : Nat),Num W A N m0 → Calls Tryd.prog 39 #[.agg #[.int .i64 E,.int .i64 F],.agg #[.bool s0,.slice A N C,.int .i64 x0]] W fun e w' => e = .returned (.tuple #[.int .u64 bk,.bool true,.int .i64 0]) ∧ Below W.heap.size W w')) (hv1 : Hid (∀ W : World,Tb W → Calls Tryd.prog 18 #[.agg #[.int .i64 E,.int .i64 F],.int .u64 bk] W fun e w' => (∃ A N C,e = .returned (.tuple #[.agg #[.bool s0,.slice A N C,.int .i64 x0],.int .i64 0]) ∧ Num w' A N m0) ∧ Below W.heap.size W w')) (hno : Hid (∀ W : World,Calls Tryd.prog 40 #[.agg #[.int .i64 E,.int .i64 F],.bool true] W fun e w' => e = .returned (.tuple #[.int .u64 nn,.int .i64 0]) ∧ Below W.heap.size W w')) (hck : Hid (∀ (W : World) (A : Option Addr) (N C : Nat),Num W A N m0 → Calls Tryd.prog 21 #[.agg #[.bool s0,.slice A N C,.int .i64 x0]] W fun e w' => e = .returned (.int .i64 0) ∧ Below W.heap.size W w')) (hbk : ((bk : Int) != (b : Int)) = true) (hbn : ((b : Int) != (nn : Int)) = false) (hb0 : ((bk : Int) != 0) = false) (hvx : Hid (∀ W : World,Tb W → Calls Tryd.prog 18 #[.agg #[.int .i64 11,.int .i64 52],.int .u64 x] W fun e w' => (∃ A N C,e = .returned (.tuple #[.agg #[.bool sx,.slice A N C,.int .i64 ex],.int .i64 0]) ∧ Num w' A N mx) ∧ Below W.heap.size W w')) (hsx : ∀ W : World,(binOp BinOp.sub 69 (.float .f64 x) (.float .f64 x)).run Tryd.prog W = .ok (.float .f64 0) W) (hvy : Hid (∀ W : World,Tb W → Calls Tryd.prog 18 #[.agg #[.int .i64 11,.int .i64 52],.int .u64 y] W fun e w' => (∃ A N C,e = .returned (.tuple #[.agg #[.bool sy,.slice A N C,.int .i64 ey],.int .i64 0]) ∧ Num w' A N my) ∧ Below W.heap.size W w')) (hsy : ∀ W : World,(binOp BinOp.sub 69 (.float .f64 y) (.float .f64 y)).run Tryd.prog W = .ok (.float .f64 0) W) (hcm : Hid (∀ (W : World) (A : Option Addr) (N C : Nat) (A' : Option Addr) (N' C' : Nat),Num W A N mx → Num W A' N' my → Calls Tryd.prog 17 #[.agg #[.bool sx,.slice A N C,.int .i64 ex],.agg #[.bool sy,.slice A' N' C',.int .i64 ey]] W fun e w' => e = .returned (.tuple #[.int .i64 1,.int .i64 0]) ∧ Below W.heap.size W w')) (hord : FloatKind.f64.format.order x y = some .gt) :
  Calls Tryd.prog 8 #[.agg #[.int .i64 E,.int .i64 F],.int .u64 b,.int .u64 x,.int .u64 y] w fun e w' => e = .returned (.bool true) ∧ Below w.heap.size w w' := by
 have HT := hide hT
 clear hT
 have x2 := xf_from
 go_enter Tryd.func8,Tryd.ntmps8
 go_wp2_with fail
 refine (alive_any _ (((unhide HT).alloc _))).mono ?_
 rintro e w1 ⟨rfl,hb1⟩
 have hS := (Fs.one w _ _).kept hb1
 obtain ⟨⟨z1_0_0,z1_0_1,-⟩,-⟩ := hS.cells
 go_wp2_with fail
 refine (unhide hv0 _ ((unhide HT).kept hS.fr)).mono ?_
 rintro e w2 ⟨⟨A3,N3,C3,rfl,f3⟩,hb2⟩
 replace hS := hS.kept hb2
 clear z1_0_0 z1_0_1
 obtain ⟨⟨z2_0_0,z2_0_1,-⟩,-⟩ := hS.cells
 have G3 := hide f3
 clear f3
 have hltw2_0 : w.heap.size < w2.heap.size := block_lt (hS.bx ⟨w.heap.size,#[.int .i64 E,.int .i64 F],38⟩ (by simp))
 replace hS := hS.alloc #[.bool s0,.slice A3 N3 C3,.int .i64 x0] 26
 replace G3 := hide ((unhide G3).alloc (.cells #[.bool s0,.slice A3 N3 C3,.int .i64 x0] 26))
 go_wp2_with fail
 refine (unhide hbi _ A3 N3 C3 (unhide G3)).mono ?_
 rintro e w3 ⟨rfl,hb3⟩
 replace hS := hS.kept hb3
 clear z2_0_0 z2_0_1
 obtain ⟨⟨z3_0_0,z3_0_1,z3_0_2,-⟩,⟨z3_1_0,z3_1_1,-⟩,-⟩ := hS.cells
 replace G3 := hide ((unhide G3).kept hb3)
 go_wp2_with fail
 refine (unhide hv1 _ ((unhide HT).kept hS.fr)).mono ?_
 rintro e w4 ⟨⟨A4,N4,C4,rfl,f4⟩,hb4⟩
 replace hS := hS.kept hb4
 clear z3_0_0 z3_0_1 z3_0_2 z3_1_0 z3_1_1
 obtain ⟨⟨z4_0_0,z4_0_1,z4_0_2,-⟩,⟨z4_1_0,z4_1_1,-⟩,-⟩ := hS.cells
 replace G3 := hide ((unhide G3).kept hb4)
 have G4 := hide f4
 clear f4
 have hltw4_0 : w2.heap.size < w4.heap.size := block_lt (hS.bx ⟨w2.heap.size,#[.bool s0,.slice A3 N3 C3,.int .i64 x0],26⟩ (by simp))
 have hltw4_1 : w.heap.size < w4.heap.size := block_lt (hS.bx ⟨w.heap.size,#[.int .i64 E,.int .i64 F],38⟩ (by simp))
 replace hS := hS.alloc #[.bool s0,.slice A4 N4 C4,.int .i64 x0] 26
 replace G3 := hide ((unhide G3).alloc (.cells #[.bool s0,.slice A4 N4 C4,.int .i64 x0] 26))
 replace G4 := hide ((unhide G4).alloc (.cells #[.bool s0,.slice A4 N4 C4,.int .i64 x0] 26))
 go_wp2_with fail
 refine (unhide hno _).mono ?_
 rintro e w5 ⟨rfl,hb5⟩
 replace hS := hS.kept hb5
 clear z4_0_0 z4_0_1 z4_0_2 z4_1_0 z4_1_1
 obtain ⟨⟨z5_0_0,z5_0_1,z5_0_2,-⟩,⟨z5_1_0,z5_1_1,z5_1_2,-⟩,⟨z5_2_0,z5_2_1,-⟩,-⟩ := hS.cells
 replace G3 := hide ((unhide G3).kept hb5)
 replace G4 := hide ((unhide G4).kept hb5)
 go_wp2_with fail
 refine (dsame_any s0 A4 N4 C4 m0 A3 N3 C3 x0 _ (unhide G4) (unhide G3)).mono ?_
 rintro e w6 ⟨rfl,hb6⟩
 replace hS := hS.kept hb6
 clear z5_0_0 z5_0_1 z5_0_2 z5_1_0 z5_1_1 z5_1_2 z5_2_0 z5_2_1
 obtain ⟨⟨z6_0_0,z6_0_1,z6_0_2,-⟩,⟨z6_1_0,z6_1_1,z6_1_2,-⟩,⟨z6_2_0,z6_2_1,-⟩,-⟩ := hS.cells
 replace G3 := hide ((unhide G3).kept hb6)
 replace G4 := hide ((unhide G4).kept hb6)
 go_wp2_with fail
 refine (unhide hck _ A3 N3 C3 (unhide G3)).mono ?_
 rintro e w7 ⟨rfl,hb7⟩
 replace hS := hS.kept hb7
 clear z6_0_0 z6_0_1 z6_0_2 z6_1_0 z6_1_1 z6_1_2 z6_2_0 z6_2_1
 obtain ⟨⟨z7_0_0,z7_0_1,z7_0_2,-⟩,⟨z7_1_0,z7_1_1,z7_1_2,-⟩,⟨z7_2_0,z7_2_1,-⟩,-⟩ := hS.cells
 replace G3 := hide ((unhide G3).kept hb7)
 replace G4 := hide ((unhide G4).kept hb7)
 go_wp2_with fail
 refine (Double4 _).mono ?_
 rintro e w8 ⟨rfl,hb8⟩
 replace hS := hS.kept hb8
 clear z7_0_0 z7_0_1 z7_0_2 z7_1_0 z7_1_1 z7_1_2 z7_2_0 z7_2_1
 obtain ⟨⟨z8_0_0,z8_0_1,z8_0_2,-⟩,⟨z8_1_0,z8_1_1,z8_1_2,-⟩,⟨z8_2_0,z8_2_1,-⟩,-⟩ := hS.cells
 replace G3 := hide ((unhide G3).kept hb8)
 replace G4 := hide ((unhide G4).kept hb8)
 go_wp2_with fail
 refine (unhide hvx _ ((unhide HT).kept hS.fr)).mono ?_
 rintro e w9 ⟨⟨A1,N1,C1,rfl,f1⟩,hb9⟩
 replace hS := hS.kept hb9
 clear z8_0_0 z8_0_1 z8_0_2 z8_1_0 z8_1_1 z8_1_2 z8_2_0 z8_2_1
 obtain ⟨⟨z9_0_0,z9_0_1,z9_0_2,-⟩,⟨z9_1_0,z9_1_1,z9_1_2,-⟩,⟨z9_2_0,z9_2_1,-⟩,-⟩ := hS.cells
 replace G3 := hide ((unhide G3).kept hb9)
 replace G4 := hide ((unhide G4).kept hb9)
 have G1 := hide f1
 clear f1
 have hltw9_0 : w4.heap.size < w9.heap.size := block_lt (hS.bx ⟨w4.heap.size,#[.bool s0,.slice A4 N4 C4,.int .i64 x0],26⟩ (by simp))
 have hltw9_1 : w2.heap.size < w9.heap.size := block_lt (hS.bx ⟨w2.heap.size,#[.bool s0,.slice A3 N3 C3,.int .i64 x0],26⟩ (by simp))
 have hltw9_2 : w.heap.size < w9.heap.size := block_lt (hS.bx ⟨w.heap.size,#[.int .i64 E,.int .i64 F],38⟩ (by simp))
 replace hS := hS.alloc #[.bool sx,.slice A1 N1 C1,.int .i64 ex] 26
 replace G3 := hide ((unhide G3).alloc (.cells #[.bool sx,.slice A1 N1 C1,.int .i64 ex] 26))
 replace G4 := hide ((unhide G4).alloc (.cells #[.bool sx,.slice A1 N1 C1,.int .i64 ex] 26))
 replace G1 := hide ((unhide G1).alloc (.cells #[.bool sx,.slice A1 N1 C1,.int .i64 ex] 26))
 go_wp2_with fail
 refine (Double4 _).mono ?_
 rintro e w10 ⟨rfl,hb10⟩
 replace hS := hS.kept hb10
 clear z9_0_0 z9_0_1 z9_0_2 z9_1_0 z9_1_1 z9_1_2 z9_2_0 z9_2_1
 obtain ⟨⟨z10_0_0,z10_0_1,z10_0_2,-⟩,⟨z10_1_0,z10_1_1,z10_1_2,-⟩,⟨z10_2_0,z10_2_1,z10_2_2,-⟩,⟨z10_3_0,z10_3_1,-⟩,-⟩ := hS.cells
 replace G3 := hide ((unhide G3).kept hb10)
 replace G4 := hide ((unhide G4).kept hb10)
 replace G1 := hide ((unhide G1).kept hb10)
 go_wp2_with fail
 refine (unhide hvy _ ((unhide HT).kept hS.fr)).mono ?_
 rintro e w11 ⟨⟨A2,N2,C2,rfl,f2⟩,hb11⟩
 replace hS := hS.kept hb11
 clear z10_0_0 z10_0_1 z10_0_2 z10_1_0 z10_1_1 z10_1_2 z10_2_0 z10_2_1 z10_2_2 z10_3_0 z10_3_1
 obtain ⟨⟨z11_0_0,z11_0_1,z11_0_2,-⟩,⟨z11_1_0,z11_1_1,z11_1_2,-⟩,⟨z11_2_0,z11_2_1,z11_2_2,-⟩,⟨z11_3_0,z11_3_1,-⟩,-⟩ := hS.cells
 replace G3 := hide ((unhide G3).kept hb11)
 replace G4 := hide ((unhide G4).kept hb11)
 replace G1 := hide ((unhide G1).kept hb11)
 have G2 := hide f2
 clear f2
 have hltw11_0 : w9.heap.size < w11.heap.size := block_lt (hS.bx ⟨w9.heap.size,#[.bool sx,.slice A1 N1 C1,.int .i64 ex],26⟩ (by simp))
 have hltw11_1 : w4.heap.size < w11.heap.size := block_lt (hS.bx ⟨w4.heap.size,#[.bool s0,.slice A4 N4 C4,.int .i64 x0],26⟩ (by simp))
 have hltw11_2 : w2.heap.size < w11.heap.size := block_lt (hS.bx ⟨w2.heap.size,#[.bool s0,.slice A3 N3 C3,.int .i64 x0],26⟩ (by simp))
 have hltw11_3 : w.heap.size < w11.heap.size := block_lt (hS.bx ⟨w.heap.size,#[.int .i64 E,.int .i64 F],38⟩ (by simp))
 replace hS := hS.alloc #[.bool sy,.slice A2 N2 C2,.int .i64 ey] 26
 replace G3 := hide ((unhide G3).alloc (.cells #[.bool sy,.slice A2 N2 C2,.int .i64 ey] 26))
 replace G4 := hide ((unhide G4).alloc (.cells #[.bool sy,.slice A2 N2 C2,.int .i64 ey] 26))
 replace G1 := hide ((unhide G1).alloc (.cells #[.bool sy,.slice A2 N2 C2,.int .i64 ey] 26))
 replace G2 := hide ((unhide G2).alloc (.cells #[.bool sy,.slice A2 N2 C2,.int .i64 ey] 26))
 go_wp2_with fail
 refine (unhide hcm _ A1 N1 C1 A2 N2 C2 (unhide G1) (unhide G2)).mono ?_
 rintro e w12 ⟨rfl,hb12⟩
 replace hS := hS.kept hb12
 clear z11_0_0 z11_0_1 z11_0_2 z11_1_0 z11_1_1 z11_1_2 z11_2_0 z11_2_1 z11_2_2 z11_3_0 z11_3_1
 obtain ⟨⟨z12_0_0,z12_0_1,z12_0_2,-⟩,⟨z12_1_0,z12_1_1,z12_1_2,-⟩,⟨z12_2_0,z12_2_1,z12_2_2,-⟩,⟨z12_3_0,z12_3_1,z12_3_2,-⟩,⟨z12_4_0,z12_4_1,-⟩,-⟩ := hS.cells
 replace G3 := hide ((unhide G3).kept hb12)
 replace G4 := hide ((unhide G4).kept hb12)
 replace G1 := hide ((unhide G1).kept hb12)
 replace G2 := hide ((unhide G2).kept hb12)
 go_wp2
 go_ret
 first | exact ⟨rfl,hS.fr⟩ | exact ⟨rfl,hS.fr.drew⟩ | exact ⟨rfl,hS.fr.drew.drew⟩
set_option maxRecDepth 20000 in
set_option maxHeartbeats 8000000 in
theorem xf_C_xn (E F : Int) (b x y : Nat) (s0 : Bool) (m0 bk nn : Nat) (x0 : Int) (sx : Bool) (mx : Nat) (ex : Int) (gy : Int) (ry : World → Nat) (w : World) (hT : Tb w) (hv0 : Hid (∀ W : World,Tb W → Calls Tryd.prog 18 #[.agg #[.int .i64 E,.int .i64 F],.int .u64 b] W fun e w' => (∃ A N C,e = .returned (.tuple #[.agg #[.bool s0,.slice A N C,.int .i64 x0],.int .i64 0]) ∧ Num w' A N m0) ∧ Below W.heap.size W w')) (hbi : Hid (∀ (W : World) (A : Option Addr) (N C : Nat),Num W A N m0 → Calls Tryd.prog 39 #[.agg #[.int .i64 E,.int .i64 F],.agg #[.bool s0,.slice A N C,.int .i64 x0]] W fun e w' => e = .returned (.tuple #[.int .u64 bk,.bool true,.int .i64 0]) ∧ Below W.heap.size W w')) (hv1 : Hid (∀ W : World,Tb W → Calls Tryd.prog 18 #[.agg #[.int .i64 E,.int .i64 F],.int .u64 bk] W fun e w' => (∃ A N C,e = .returned (.tuple #[.agg #[.bool s0,.slice A N C,.int .i64 x0],.int .i64 0]) ∧ Num w' A N m0) ∧ Below W.heap.size W w')) (hno : Hid (∀ W : World,Calls Tryd.prog 40 #[.agg #[.int .i64 E,.int .i64 F],.bool true] W fun e w' => e = .returned (.tuple #[.int .u64 nn,.int .i64 0]) ∧ Below W.heap.size W w')) (hck : Hid (∀ (W : World) (A : Option Addr) (N C : Nat),Num W A N m0 → Calls Tryd.prog 21 #[.agg #[.bool s0,.slice A N C,.int .i64 x0]] W fun e w' => e = .returned (.int .i64 0) ∧ Below W.heap.size W w')) (hbk : ((bk : Int) != (b : Int)) = true) (hbn : ((b : Int) != (nn : Int)) = false) (hb0 : ((bk : Int) != 0) = false) (hvx : Hid (∀ W : World,Tb W → Calls Tryd.prog 18 #[.agg #[.int .i64 11,.int .i64 52],.int .u64 x] W fun e w' => (∃ A N C,e = .returned (.tuple #[.agg #[.bool sx,.slice A N C,.int .i64 ex],.int .i64 0]) ∧ Num w' A N mx) ∧ Below W.heap.size W w')) (hsx : ∀ W : World,(binOp BinOp.sub 69 (.float .f64 x) (.float .f64 x)).run Tryd.prog W = .ok (.float .f64 0) W) (hvy : Hid (∀ W : World,Calls Tryd.prog 18 #[.agg #[.int .i64 11,.int .i64 52],.int .u64 y] W fun e w' => e = .returned (.tuple #[.agg #[.bool false,.slice none 0 0,.int .i64 0],.int .i64 gy]) ∧ Below W.heap.size W w')) (hgy : (gy == 0) = false) (hgy2 : (gy != 0) = true) (hsy : ∀ W : World,(binOp BinOp.sub 69 (.float .f64 y) (.float .f64 y)).run Tryd.prog W = .ok (.float .f64 (ry W)) W.drew) (hry : ∀ W,FloatKind.f64.format.order (ry W) 0 = none)  :
  Calls Tryd.prog 8 #[.agg #[.int .i64 E,.int .i64 F],.int .u64 b,.int .u64 x,.int .u64 y] w fun e w' => e = .returned (.bool true) ∧ Below w.heap.size w w' := by
 have HT := hide hT
 clear hT
 have x2 := xf_from
 go_enter Tryd.func8,Tryd.ntmps8
 go_wp2_with fail
 refine (alive_any _ (((unhide HT).alloc _))).mono ?_
 rintro e w1 ⟨rfl,hb1⟩
 have hS := (Fs.one w _ _).kept hb1
 obtain ⟨⟨z1_0_0,z1_0_1,-⟩,-⟩ := hS.cells
 go_wp2_with fail
 refine (unhide hv0 _ ((unhide HT).kept hS.fr)).mono ?_
 rintro e w2 ⟨⟨A3,N3,C3,rfl,f3⟩,hb2⟩
 replace hS := hS.kept hb2
 clear z1_0_0 z1_0_1
 obtain ⟨⟨z2_0_0,z2_0_1,-⟩,-⟩ := hS.cells
 have G3 := hide f3
 clear f3
 have hltw2_0 : w.heap.size < w2.heap.size := block_lt (hS.bx ⟨w.heap.size,#[.int .i64 E,.int .i64 F],38⟩ (by simp))
 replace hS := hS.alloc #[.bool s0,.slice A3 N3 C3,.int .i64 x0] 26
 replace G3 := hide ((unhide G3).alloc (.cells #[.bool s0,.slice A3 N3 C3,.int .i64 x0] 26))
 go_wp2_with fail
 refine (unhide hbi _ A3 N3 C3 (unhide G3)).mono ?_
 rintro e w3 ⟨rfl,hb3⟩
 replace hS := hS.kept hb3
 clear z2_0_0 z2_0_1
 obtain ⟨⟨z3_0_0,z3_0_1,z3_0_2,-⟩,⟨z3_1_0,z3_1_1,-⟩,-⟩ := hS.cells
 replace G3 := hide ((unhide G3).kept hb3)
 go_wp2_with fail
 refine (unhide hv1 _ ((unhide HT).kept hS.fr)).mono ?_
 rintro e w4 ⟨⟨A4,N4,C4,rfl,f4⟩,hb4⟩
 replace hS := hS.kept hb4
 clear z3_0_0 z3_0_1 z3_0_2 z3_1_0 z3_1_1
 obtain ⟨⟨z4_0_0,z4_0_1,z4_0_2,-⟩,⟨z4_1_0,z4_1_1,-⟩,-⟩ := hS.cells
 replace G3 := hide ((unhide G3).kept hb4)
 have G4 := hide f4
 clear f4
 have hltw4_0 : w2.heap.size < w4.heap.size := block_lt (hS.bx ⟨w2.heap.size,#[.bool s0,.slice A3 N3 C3,.int .i64 x0],26⟩ (by simp))
 have hltw4_1 : w.heap.size < w4.heap.size := block_lt (hS.bx ⟨w.heap.size,#[.int .i64 E,.int .i64 F],38⟩ (by simp))
 replace hS := hS.alloc #[.bool s0,.slice A4 N4 C4,.int .i64 x0] 26
 replace G3 := hide ((unhide G3).alloc (.cells #[.bool s0,.slice A4 N4 C4,.int .i64 x0] 26))
 replace G4 := hide ((unhide G4).alloc (.cells #[.bool s0,.slice A4 N4 C4,.int .i64 x0] 26))
 go_wp2_with fail
 refine (unhide hno _).mono ?_
 rintro e w5 ⟨rfl,hb5⟩
 replace hS := hS.kept hb5
 clear z4_0_0 z4_0_1 z4_0_2 z4_1_0 z4_1_1
 obtain ⟨⟨z5_0_0,z5_0_1,z5_0_2,-⟩,⟨z5_1_0,z5_1_1,z5_1_2,-⟩,⟨z5_2_0,z5_2_1,-⟩,-⟩ := hS.cells
 replace G3 := hide ((unhide G3).kept hb5)
 replace G4 := hide ((unhide G4).kept hb5)
 go_wp2_with fail
 refine (dsame_any s0 A4 N4 C4 m0 A3 N3 C3 x0 _ (unhide G4) (unhide G3)).mono ?_
 rintro e w6 ⟨rfl,hb6⟩
 replace hS := hS.kept hb6
 clear z5_0_0 z5_0_1 z5_0_2 z5_1_0 z5_1_1 z5_1_2 z5_2_0 z5_2_1
 obtain ⟨⟨z6_0_0,z6_0_1,z6_0_2,-⟩,⟨z6_1_0,z6_1_1,z6_1_2,-⟩,⟨z6_2_0,z6_2_1,-⟩,-⟩ := hS.cells
 replace G3 := hide ((unhide G3).kept hb6)
 replace G4 := hide ((unhide G4).kept hb6)
 go_wp2_with fail
 refine (unhide hck _ A3 N3 C3 (unhide G3)).mono ?_
 rintro e w7 ⟨rfl,hb7⟩
 replace hS := hS.kept hb7
 clear z6_0_0 z6_0_1 z6_0_2 z6_1_0 z6_1_1 z6_1_2 z6_2_0 z6_2_1
 obtain ⟨⟨z7_0_0,z7_0_1,z7_0_2,-⟩,⟨z7_1_0,z7_1_1,z7_1_2,-⟩,⟨z7_2_0,z7_2_1,-⟩,-⟩ := hS.cells
 replace G3 := hide ((unhide G3).kept hb7)
 replace G4 := hide ((unhide G4).kept hb7)
 go_wp2_with fail
 refine (Double4 _).mono ?_
 rintro e w8 ⟨rfl,hb8⟩
 replace hS := hS.kept hb8
 clear z7_0_0 z7_0_1 z7_0_2 z7_1_0 z7_1_1 z7_1_2 z7_2_0 z7_2_1
 obtain ⟨⟨z8_0_0,z8_0_1,z8_0_2,-⟩,⟨z8_1_0,z8_1_1,z8_1_2,-⟩,⟨z8_2_0,z8_2_1,-⟩,-⟩ := hS.cells
 replace G3 := hide ((unhide G3).kept hb8)
 replace G4 := hide ((unhide G4).kept hb8)
 go_wp2_with fail
 refine (unhide hvx _ ((unhide HT).kept hS.fr)).mono ?_
 rintro e w9 ⟨⟨A1,N1,C1,rfl,f1⟩,hb9⟩
 replace hS := hS.kept hb9
 clear z8_0_0 z8_0_1 z8_0_2 z8_1_0 z8_1_1 z8_1_2 z8_2_0 z8_2_1
 obtain ⟨⟨z9_0_0,z9_0_1,z9_0_2,-⟩,⟨z9_1_0,z9_1_1,z9_1_2,-⟩,⟨z9_2_0,z9_2_1,-⟩,-⟩ := hS.cells
 replace G3 := hide ((unhide G3).kept hb9)
 replace G4 := hide ((unhide G4).kept hb9)
 have G1 := hide f1
 clear f1
 have hltw9_0 : w4.heap.size < w9.heap.size := block_lt (hS.bx ⟨w4.heap.size,#[.bool s0,.slice A4 N4 C4,.int .i64 x0],26⟩ (by simp))
 have hltw9_1 : w2.heap.size < w9.heap.size := block_lt (hS.bx ⟨w2.heap.size,#[.bool s0,.slice A3 N3 C3,.int .i64 x0],26⟩ (by simp))
 have hltw9_2 : w.heap.size < w9.heap.size := block_lt (hS.bx ⟨w.heap.size,#[.int .i64 E,.int .i64 F],38⟩ (by simp))
 replace hS := hS.alloc #[.bool sx,.slice A1 N1 C1,.int .i64 ex] 26
 replace G3 := hide ((unhide G3).alloc (.cells #[.bool sx,.slice A1 N1 C1,.int .i64 ex] 26))
 replace G4 := hide ((unhide G4).alloc (.cells #[.bool sx,.slice A1 N1 C1,.int .i64 ex] 26))
 replace G1 := hide ((unhide G1).alloc (.cells #[.bool sx,.slice A1 N1 C1,.int .i64 ex] 26))
 go_wp2_with fail
 refine (Double4 _).mono ?_
 rintro e w10 ⟨rfl,hb10⟩
 replace hS := hS.kept hb10
 clear z9_0_0 z9_0_1 z9_0_2 z9_1_0 z9_1_1 z9_1_2 z9_2_0 z9_2_1
 obtain ⟨⟨z10_0_0,z10_0_1,z10_0_2,-⟩,⟨z10_1_0,z10_1_1,z10_1_2,-⟩,⟨z10_2_0,z10_2_1,z10_2_2,-⟩,⟨z10_3_0,z10_3_1,-⟩,-⟩ := hS.cells
 replace G3 := hide ((unhide G3).kept hb10)
 replace G4 := hide ((unhide G4).kept hb10)
 replace G1 := hide ((unhide G1).kept hb10)
 go_wp2_with fail
 refine (unhide hvy _).mono ?_
 rintro e w11 ⟨rfl,hb11⟩
 replace hS := hS.kept hb11
 clear z10_0_0 z10_0_1 z10_0_2 z10_1_0 z10_1_1 z10_1_2 z10_2_0 z10_2_1 z10_2_2 z10_3_0 z10_3_1
 obtain ⟨⟨z11_0_0,z11_0_1,z11_0_2,-⟩,⟨z11_1_0,z11_1_1,z11_1_2,-⟩,⟨z11_2_0,z11_2_1,z11_2_2,-⟩,⟨z11_3_0,z11_3_1,-⟩,-⟩ := hS.cells
 replace G3 := hide ((unhide G3).kept hb11)
 replace G4 := hide ((unhide G4).kept hb11)
 replace G1 := hide ((unhide G1).kept hb11)
 have hltw11_0 : w9.heap.size < w11.heap.size := block_lt (hS.bx ⟨w9.heap.size,#[.bool sx,.slice A1 N1 C1,.int .i64 ex],26⟩ (by simp))
 have hltw11_1 : w4.heap.size < w11.heap.size := block_lt (hS.bx ⟨w4.heap.size,#[.bool s0,.slice A4 N4 C4,.int .i64 x0],26⟩ (by simp))
 have hltw11_2 : w2.heap.size < w11.heap.size := block_lt (hS.bx ⟨w2.heap.size,#[.bool s0,.slice A3 N3 C3,.int .i64 x0],26⟩ (by simp))
 have hltw11_3 : w.heap.size < w11.heap.size := block_lt (hS.bx ⟨w.heap.size,#[.int .i64 E,.int .i64 F],38⟩ (by simp))
 replace hS := hS.alloc #[.bool false,.slice none 0 0,.int .i64 0] 26
 replace G3 := hide ((unhide G3).alloc (.cells #[.bool false,.slice none 0 0,.int .i64 0] 26))
 replace G4 := hide ((unhide G4).alloc (.cells #[.bool false,.slice none 0 0,.int .i64 0] 26))
 replace G1 := hide ((unhide G1).alloc (.cells #[.bool false,.slice none 0 0,.int .i64 0] 26))
 go_wp2
 go_ret
 first | exact ⟨rfl,hS.fr⟩ | exact ⟨rfl,hS.fr.drew⟩ | exact ⟨rfl,hS.fr.drew.drew⟩
set_option maxRecDepth 20000 in
set_option maxHeartbeats 8000000 in
theorem xf_C_nx (E F : Int) (b x y : Nat) (s0 : Bool) (m0 bk nn : Nat) (x0 : Int) (gx : Int) (rx : World → Nat) (sy : Bool) (my : Nat) (ey : Int) (w : World) (hT : Tb w) (hv0 : Hid (∀ W : World,Tb W → Calls Tryd.prog 18 #[.agg #[.int .i64 E,.int .i64 F],.int .u64 b] W fun e w' => (∃ A N C,e = .returned (.tuple #[.agg #[.bool s0,.slice A N C,.int .i64 x0],.int .i64 0]) ∧ Num w' A N m0) ∧ Below W.heap.size W w')) (hbi : Hid (∀ (W : World) (A : Option Addr) (N C : Nat),Num W A N m0 → Calls Tryd.prog 39 #[.agg #[.int .i64 E,.int .i64 F],.agg #[.bool s0,.slice A N C,.int .i64 x0]] W fun e w' => e = .returned (.tuple #[.int .u64 bk,.bool true,.int .i64 0]) ∧ Below W.heap.size W w')) (hv1 : Hid (∀ W : World,Tb W → Calls Tryd.prog 18 #[.agg #[.int .i64 E,.int .i64 F],.int .u64 bk] W fun e w' => (∃ A N C,e = .returned (.tuple #[.agg #[.bool s0,.slice A N C,.int .i64 x0],.int .i64 0]) ∧ Num w' A N m0) ∧ Below W.heap.size W w')) (hno : Hid (∀ W : World,Calls Tryd.prog 40 #[.agg #[.int .i64 E,.int .i64 F],.bool true] W fun e w' => e = .returned (.tuple #[.int .u64 nn,.int .i64 0]) ∧ Below W.heap.size W w')) (hck : Hid (∀ (W : World) (A : Option Addr) (N C : Nat),Num W A N m0 → Calls Tryd.prog 21 #[.agg #[.bool s0,.slice A N C,.int .i64 x0]] W fun e w' => e = .returned (.int .i64 0) ∧ Below W.heap.size W w')) (hbk : ((bk : Int) != (b : Int)) = true) (hbn : ((b : Int) != (nn : Int)) = false) (hb0 : ((bk : Int) != 0) = false) (hvx : Hid (∀ W : World,Calls Tryd.prog 18 #[.agg #[.int .i64 11,.int .i64 52],.int .u64 x] W fun e w' => e = .returned (.tuple #[.agg #[.bool false,.slice none 0 0,.int .i64 0],.int .i64 gx]) ∧ Below W.heap.size W w')) (hgx : (gx == 0) = false) (hgx2 : (gx != 0) = true) (hsx : ∀ W : World,(binOp BinOp.sub 69 (.float .f64 x) (.float .f64 x)).run Tryd.prog W = .ok (.float .f64 (rx W)) W.drew) (hrx : ∀ W,FloatKind.f64.format.order (rx W) 0 = none) (hvy : Hid (∀ W : World,Tb W → Calls Tryd.prog 18 #[.agg #[.int .i64 11,.int .i64 52],.int .u64 y] W fun e w' => (∃ A N C,e = .returned (.tuple #[.agg #[.bool sy,.slice A N C,.int .i64 ey],.int .i64 0]) ∧ Num w' A N my) ∧ Below W.heap.size W w')) (hsy : ∀ W : World,(binOp BinOp.sub 69 (.float .f64 y) (.float .f64 y)).run Tryd.prog W = .ok (.float .f64 0) W)  :
  Calls Tryd.prog 8 #[.agg #[.int .i64 E,.int .i64 F],.int .u64 b,.int .u64 x,.int .u64 y] w fun e w' => e = .returned (.bool true) ∧ Below w.heap.size w w' := by
 have HT := hide hT
 clear hT
 have x2 := xf_from
 go_enter Tryd.func8,Tryd.ntmps8
 go_wp2_with fail
 refine (alive_any _ (((unhide HT).alloc _))).mono ?_
 rintro e w1 ⟨rfl,hb1⟩
 have hS := (Fs.one w _ _).kept hb1
 obtain ⟨⟨z1_0_0,z1_0_1,-⟩,-⟩ := hS.cells
 go_wp2_with fail
 refine (unhide hv0 _ ((unhide HT).kept hS.fr)).mono ?_
 rintro e w2 ⟨⟨A3,N3,C3,rfl,f3⟩,hb2⟩
 replace hS := hS.kept hb2
 clear z1_0_0 z1_0_1
 obtain ⟨⟨z2_0_0,z2_0_1,-⟩,-⟩ := hS.cells
 have G3 := hide f3
 clear f3
 have hltw2_0 : w.heap.size < w2.heap.size := block_lt (hS.bx ⟨w.heap.size,#[.int .i64 E,.int .i64 F],38⟩ (by simp))
 replace hS := hS.alloc #[.bool s0,.slice A3 N3 C3,.int .i64 x0] 26
 replace G3 := hide ((unhide G3).alloc (.cells #[.bool s0,.slice A3 N3 C3,.int .i64 x0] 26))
 go_wp2_with fail
 refine (unhide hbi _ A3 N3 C3 (unhide G3)).mono ?_
 rintro e w3 ⟨rfl,hb3⟩
 replace hS := hS.kept hb3
 clear z2_0_0 z2_0_1
 obtain ⟨⟨z3_0_0,z3_0_1,z3_0_2,-⟩,⟨z3_1_0,z3_1_1,-⟩,-⟩ := hS.cells
 replace G3 := hide ((unhide G3).kept hb3)
 go_wp2_with fail
 refine (unhide hv1 _ ((unhide HT).kept hS.fr)).mono ?_
 rintro e w4 ⟨⟨A4,N4,C4,rfl,f4⟩,hb4⟩
 replace hS := hS.kept hb4
 clear z3_0_0 z3_0_1 z3_0_2 z3_1_0 z3_1_1
 obtain ⟨⟨z4_0_0,z4_0_1,z4_0_2,-⟩,⟨z4_1_0,z4_1_1,-⟩,-⟩ := hS.cells
 replace G3 := hide ((unhide G3).kept hb4)
 have G4 := hide f4
 clear f4
 have hltw4_0 : w2.heap.size < w4.heap.size := block_lt (hS.bx ⟨w2.heap.size,#[.bool s0,.slice A3 N3 C3,.int .i64 x0],26⟩ (by simp))
 have hltw4_1 : w.heap.size < w4.heap.size := block_lt (hS.bx ⟨w.heap.size,#[.int .i64 E,.int .i64 F],38⟩ (by simp))
 replace hS := hS.alloc #[.bool s0,.slice A4 N4 C4,.int .i64 x0] 26
 replace G3 := hide ((unhide G3).alloc (.cells #[.bool s0,.slice A4 N4 C4,.int .i64 x0] 26))
 replace G4 := hide ((unhide G4).alloc (.cells #[.bool s0,.slice A4 N4 C4,.int .i64 x0] 26))
 go_wp2_with fail
 refine (unhide hno _).mono ?_
 rintro e w5 ⟨rfl,hb5⟩
 replace hS := hS.kept hb5
 clear z4_0_0 z4_0_1 z4_0_2 z4_1_0 z4_1_1
 obtain ⟨⟨z5_0_0,z5_0_1,z5_0_2,-⟩,⟨z5_1_0,z5_1_1,z5_1_2,-⟩,⟨z5_2_0,z5_2_1,-⟩,-⟩ := hS.cells
 replace G3 := hide ((unhide G3).kept hb5)
 replace G4 := hide ((unhide G4).kept hb5)
 go_wp2_with fail
 refine (dsame_any s0 A4 N4 C4 m0 A3 N3 C3 x0 _ (unhide G4) (unhide G3)).mono ?_
 rintro e w6 ⟨rfl,hb6⟩
 replace hS := hS.kept hb6
 clear z5_0_0 z5_0_1 z5_0_2 z5_1_0 z5_1_1 z5_1_2 z5_2_0 z5_2_1
 obtain ⟨⟨z6_0_0,z6_0_1,z6_0_2,-⟩,⟨z6_1_0,z6_1_1,z6_1_2,-⟩,⟨z6_2_0,z6_2_1,-⟩,-⟩ := hS.cells
 replace G3 := hide ((unhide G3).kept hb6)
 replace G4 := hide ((unhide G4).kept hb6)
 go_wp2_with fail
 refine (unhide hck _ A3 N3 C3 (unhide G3)).mono ?_
 rintro e w7 ⟨rfl,hb7⟩
 replace hS := hS.kept hb7
 clear z6_0_0 z6_0_1 z6_0_2 z6_1_0 z6_1_1 z6_1_2 z6_2_0 z6_2_1
 obtain ⟨⟨z7_0_0,z7_0_1,z7_0_2,-⟩,⟨z7_1_0,z7_1_1,z7_1_2,-⟩,⟨z7_2_0,z7_2_1,-⟩,-⟩ := hS.cells
 replace G3 := hide ((unhide G3).kept hb7)
 replace G4 := hide ((unhide G4).kept hb7)
 go_wp2_with fail
 refine (Double4 _).mono ?_
 rintro e w8 ⟨rfl,hb8⟩
 replace hS := hS.kept hb8
 clear z7_0_0 z7_0_1 z7_0_2 z7_1_0 z7_1_1 z7_1_2 z7_2_0 z7_2_1
 obtain ⟨⟨z8_0_0,z8_0_1,z8_0_2,-⟩,⟨z8_1_0,z8_1_1,z8_1_2,-⟩,⟨z8_2_0,z8_2_1,-⟩,-⟩ := hS.cells
 replace G3 := hide ((unhide G3).kept hb8)
 replace G4 := hide ((unhide G4).kept hb8)
 go_wp2_with fail
 refine (unhide hvx _).mono ?_
 rintro e w9 ⟨rfl,hb9⟩
 replace hS := hS.kept hb9
 clear z8_0_0 z8_0_1 z8_0_2 z8_1_0 z8_1_1 z8_1_2 z8_2_0 z8_2_1
 obtain ⟨⟨z9_0_0,z9_0_1,z9_0_2,-⟩,⟨z9_1_0,z9_1_1,z9_1_2,-⟩,⟨z9_2_0,z9_2_1,-⟩,-⟩ := hS.cells
 replace G3 := hide ((unhide G3).kept hb9)
 replace G4 := hide ((unhide G4).kept hb9)
 have hltw9_0 : w4.heap.size < w9.heap.size := block_lt (hS.bx ⟨w4.heap.size,#[.bool s0,.slice A4 N4 C4,.int .i64 x0],26⟩ (by simp))
 have hltw9_1 : w2.heap.size < w9.heap.size := block_lt (hS.bx ⟨w2.heap.size,#[.bool s0,.slice A3 N3 C3,.int .i64 x0],26⟩ (by simp))
 have hltw9_2 : w.heap.size < w9.heap.size := block_lt (hS.bx ⟨w.heap.size,#[.int .i64 E,.int .i64 F],38⟩ (by simp))
 replace hS := hS.alloc #[.bool false,.slice none 0 0,.int .i64 0] 26
 replace G3 := hide ((unhide G3).alloc (.cells #[.bool false,.slice none 0 0,.int .i64 0] 26))
 replace G4 := hide ((unhide G4).alloc (.cells #[.bool false,.slice none 0 0,.int .i64 0] 26))
 go_wp2_with fail
 refine (Double4 _).mono ?_
 rintro e w10 ⟨rfl,hb10⟩
 replace hS := hS.kept hb10
 clear z9_0_0 z9_0_1 z9_0_2 z9_1_0 z9_1_1 z9_1_2 z9_2_0 z9_2_1
 obtain ⟨⟨z10_0_0,z10_0_1,z10_0_2,-⟩,⟨z10_1_0,z10_1_1,z10_1_2,-⟩,⟨z10_2_0,z10_2_1,z10_2_2,-⟩,⟨z10_3_0,z10_3_1,-⟩,-⟩ := hS.cells
 replace G3 := hide ((unhide G3).kept hb10)
 replace G4 := hide ((unhide G4).kept hb10)
 go_wp2_with fail
 refine (unhide hvy _ ((unhide HT).kept hS.fr)).mono ?_
 rintro e w11 ⟨⟨A2,N2,C2,rfl,f2⟩,hb11⟩
 replace hS := hS.kept hb11
 clear z10_0_0 z10_0_1 z10_0_2 z10_1_0 z10_1_1 z10_1_2 z10_2_0 z10_2_1 z10_2_2 z10_3_0 z10_3_1
 obtain ⟨⟨z11_0_0,z11_0_1,z11_0_2,-⟩,⟨z11_1_0,z11_1_1,z11_1_2,-⟩,⟨z11_2_0,z11_2_1,z11_2_2,-⟩,⟨z11_3_0,z11_3_1,-⟩,-⟩ := hS.cells
 replace G3 := hide ((unhide G3).kept hb11)
 replace G4 := hide ((unhide G4).kept hb11)
 have G2 := hide f2
 clear f2
 have hltw11_0 : w9.heap.size < w11.heap.size := block_lt (hS.bx ⟨w9.heap.size,#[.bool false,.slice none 0 0,.int .i64 0],26⟩ (by simp))
 have hltw11_1 : w4.heap.size < w11.heap.size := block_lt (hS.bx ⟨w4.heap.size,#[.bool s0,.slice A4 N4 C4,.int .i64 x0],26⟩ (by simp))
 have hltw11_2 : w2.heap.size < w11.heap.size := block_lt (hS.bx ⟨w2.heap.size,#[.bool s0,.slice A3 N3 C3,.int .i64 x0],26⟩ (by simp))
 have hltw11_3 : w.heap.size < w11.heap.size := block_lt (hS.bx ⟨w.heap.size,#[.int .i64 E,.int .i64 F],38⟩ (by simp))
 replace hS := hS.alloc #[.bool sy,.slice A2 N2 C2,.int .i64 ey] 26
 replace G3 := hide ((unhide G3).alloc (.cells #[.bool sy,.slice A2 N2 C2,.int .i64 ey] 26))
 replace G4 := hide ((unhide G4).alloc (.cells #[.bool sy,.slice A2 N2 C2,.int .i64 ey] 26))
 replace G2 := hide ((unhide G2).alloc (.cells #[.bool sy,.slice A2 N2 C2,.int .i64 ey] 26))
 go_wp2
 go_ret
 first | exact ⟨rfl,hS.fr⟩ | exact ⟨rfl,hS.fr.drew⟩ | exact ⟨rfl,hS.fr.drew.drew⟩
set_option maxRecDepth 20000 in
set_option maxHeartbeats 8000000 in
theorem xf_C_nn (E F : Int) (b x y : Nat) (s0 : Bool) (m0 bk nn : Nat) (x0 : Int) (gx : Int) (rx : World → Nat) (gy : Int) (ry : World → Nat) (w : World) (hT : Tb w) (hv0 : Hid (∀ W : World,Tb W → Calls Tryd.prog 18 #[.agg #[.int .i64 E,.int .i64 F],.int .u64 b] W fun e w' => (∃ A N C,e = .returned (.tuple #[.agg #[.bool s0,.slice A N C,.int .i64 x0],.int .i64 0]) ∧ Num w' A N m0) ∧ Below W.heap.size W w')) (hbi : Hid (∀ (W : World) (A : Option Addr) (N C : Nat),Num W A N m0 → Calls Tryd.prog 39 #[.agg #[.int .i64 E,.int .i64 F],.agg #[.bool s0,.slice A N C,.int .i64 x0]] W fun e w' => e = .returned (.tuple #[.int .u64 bk,.bool true,.int .i64 0]) ∧ Below W.heap.size W w')) (hv1 : Hid (∀ W : World,Tb W → Calls Tryd.prog 18 #[.agg #[.int .i64 E,.int .i64 F],.int .u64 bk] W fun e w' => (∃ A N C,e = .returned (.tuple #[.agg #[.bool s0,.slice A N C,.int .i64 x0],.int .i64 0]) ∧ Num w' A N m0) ∧ Below W.heap.size W w')) (hno : Hid (∀ W : World,Calls Tryd.prog 40 #[.agg #[.int .i64 E,.int .i64 F],.bool true] W fun e w' => e = .returned (.tuple #[.int .u64 nn,.int .i64 0]) ∧ Below W.heap.size W w')) (hck : Hid (∀ (W : World) (A : Option Addr) (N C : Nat),Num W A N m0 → Calls Tryd.prog 21 #[.agg #[.bool s0,.slice A N C,.int .i64 x0]] W fun e w' => e = .returned (.int .i64 0) ∧ Below W.heap.size W w')) (hbk : ((bk : Int) != (b : Int)) = true) (hbn : ((b : Int) != (nn : Int)) = false) (hb0 : ((bk : Int) != 0) = false) (hvx : Hid (∀ W : World,Calls Tryd.prog 18 #[.agg #[.int .i64 11,.int .i64 52],.int .u64 x] W fun e w' => e = .returned (.tuple #[.agg #[.bool false,.slice none 0 0,.int .i64 0],.int .i64 gx]) ∧ Below W.heap.size W w')) (hgx : (gx == 0) = false) (hgx2 : (gx != 0) = true) (hsx : ∀ W : World,(binOp BinOp.sub 69 (.float .f64 x) (.float .f64 x)).run Tryd.prog W = .ok (.float .f64 (rx W)) W.drew) (hrx : ∀ W,FloatKind.f64.format.order (rx W) 0 = none) (hvy : Hid (∀ W : World,Calls Tryd.prog 18 #[.agg #[.int .i64 11,.int .i64 52],.int .u64 y] W fun e w' => e = .returned (.tuple #[.agg #[.bool false,.slice none 0 0,.int .i64 0],.int .i64 gy]) ∧ Below W.heap.size W w')) (hgy : (gy == 0) = false) (hsy : ∀ W : World,(binOp BinOp.sub 69 (.float .f64 y) (.float .f64 y)).run Tryd.prog W = .ok (.float .f64 (ry W)) W.drew) (hry : ∀ W,FloatKind.f64.format.order (ry W) 0 = none)  :
  Calls Tryd.prog 8 #[.agg #[.int .i64 E,.int .i64 F],.int .u64 b,.int .u64 x,.int .u64 y] w fun e w' => e = .returned (.bool true) ∧ Below w.heap.size w w' := by
 have HT := hide hT
 clear hT
 have x2 := xf_from
 go_enter Tryd.func8,Tryd.ntmps8
 go_wp2_with fail
 refine (alive_any _ (((unhide HT).alloc _))).mono ?_
 rintro e w1 ⟨rfl,hb1⟩
 have hS := (Fs.one w _ _).kept hb1
 obtain ⟨⟨z1_0_0,z1_0_1,-⟩,-⟩ := hS.cells
 go_wp2_with fail
 refine (unhide hv0 _ ((unhide HT).kept hS.fr)).mono ?_
 rintro e w2 ⟨⟨A3,N3,C3,rfl,f3⟩,hb2⟩
 replace hS := hS.kept hb2
 clear z1_0_0 z1_0_1
 obtain ⟨⟨z2_0_0,z2_0_1,-⟩,-⟩ := hS.cells
 have G3 := hide f3
 clear f3
 have hltw2_0 : w.heap.size < w2.heap.size := block_lt (hS.bx ⟨w.heap.size,#[.int .i64 E,.int .i64 F],38⟩ (by simp))
 replace hS := hS.alloc #[.bool s0,.slice A3 N3 C3,.int .i64 x0] 26
 replace G3 := hide ((unhide G3).alloc (.cells #[.bool s0,.slice A3 N3 C3,.int .i64 x0] 26))
 go_wp2_with fail
 refine (unhide hbi _ A3 N3 C3 (unhide G3)).mono ?_
 rintro e w3 ⟨rfl,hb3⟩
 replace hS := hS.kept hb3
 clear z2_0_0 z2_0_1
 obtain ⟨⟨z3_0_0,z3_0_1,z3_0_2,-⟩,⟨z3_1_0,z3_1_1,-⟩,-⟩ := hS.cells
 replace G3 := hide ((unhide G3).kept hb3)
 go_wp2_with fail
 refine (unhide hv1 _ ((unhide HT).kept hS.fr)).mono ?_
 rintro e w4 ⟨⟨A4,N4,C4,rfl,f4⟩,hb4⟩
 replace hS := hS.kept hb4
 clear z3_0_0 z3_0_1 z3_0_2 z3_1_0 z3_1_1
 obtain ⟨⟨z4_0_0,z4_0_1,z4_0_2,-⟩,⟨z4_1_0,z4_1_1,-⟩,-⟩ := hS.cells
 replace G3 := hide ((unhide G3).kept hb4)
 have G4 := hide f4
 clear f4
 have hltw4_0 : w2.heap.size < w4.heap.size := block_lt (hS.bx ⟨w2.heap.size,#[.bool s0,.slice A3 N3 C3,.int .i64 x0],26⟩ (by simp))
 have hltw4_1 : w.heap.size < w4.heap.size := block_lt (hS.bx ⟨w.heap.size,#[.int .i64 E,.int .i64 F],38⟩ (by simp))
 replace hS := hS.alloc #[.bool s0,.slice A4 N4 C4,.int .i64 x0] 26
 replace G3 := hide ((unhide G3).alloc (.cells #[.bool s0,.slice A4 N4 C4,.int .i64 x0] 26))
 replace G4 := hide ((unhide G4).alloc (.cells #[.bool s0,.slice A4 N4 C4,.int .i64 x0] 26))
 go_wp2_with fail
 refine (unhide hno _).mono ?_
 rintro e w5 ⟨rfl,hb5⟩
 replace hS := hS.kept hb5
 clear z4_0_0 z4_0_1 z4_0_2 z4_1_0 z4_1_1
 obtain ⟨⟨z5_0_0,z5_0_1,z5_0_2,-⟩,⟨z5_1_0,z5_1_1,z5_1_2,-⟩,⟨z5_2_0,z5_2_1,-⟩,-⟩ := hS.cells
 replace G3 := hide ((unhide G3).kept hb5)
 replace G4 := hide ((unhide G4).kept hb5)
 go_wp2_with fail
 refine (dsame_any s0 A4 N4 C4 m0 A3 N3 C3 x0 _ (unhide G4) (unhide G3)).mono ?_
 rintro e w6 ⟨rfl,hb6⟩
 replace hS := hS.kept hb6
 clear z5_0_0 z5_0_1 z5_0_2 z5_1_0 z5_1_1 z5_1_2 z5_2_0 z5_2_1
 obtain ⟨⟨z6_0_0,z6_0_1,z6_0_2,-⟩,⟨z6_1_0,z6_1_1,z6_1_2,-⟩,⟨z6_2_0,z6_2_1,-⟩,-⟩ := hS.cells
 replace G3 := hide ((unhide G3).kept hb6)
 replace G4 := hide ((unhide G4).kept hb6)
 go_wp2_with fail
 refine (unhide hck _ A3 N3 C3 (unhide G3)).mono ?_
 rintro e w7 ⟨rfl,hb7⟩
 replace hS := hS.kept hb7
 clear z6_0_0 z6_0_1 z6_0_2 z6_1_0 z6_1_1 z6_1_2 z6_2_0 z6_2_1
 obtain ⟨⟨z7_0_0,z7_0_1,z7_0_2,-⟩,⟨z7_1_0,z7_1_1,z7_1_2,-⟩,⟨z7_2_0,z7_2_1,-⟩,-⟩ := hS.cells
 replace G3 := hide ((unhide G3).kept hb7)
 replace G4 := hide ((unhide G4).kept hb7)
 go_wp2_with fail
 refine (Double4 _).mono ?_
 rintro e w8 ⟨rfl,hb8⟩
 replace hS := hS.kept hb8
 clear z7_0_0 z7_0_1 z7_0_2 z7_1_0 z7_1_1 z7_1_2 z7_2_0 z7_2_1
 obtain ⟨⟨z8_0_0,z8_0_1,z8_0_2,-⟩,⟨z8_1_0,z8_1_1,z8_1_2,-⟩,⟨z8_2_0,z8_2_1,-⟩,-⟩ := hS.cells
 replace G3 := hide ((unhide G3).kept hb8)
 replace G4 := hide ((unhide G4).kept hb8)
 go_wp2_with fail
 refine (unhide hvx _).mono ?_
 rintro e w9 ⟨rfl,hb9⟩
 replace hS := hS.kept hb9
 clear z8_0_0 z8_0_1 z8_0_2 z8_1_0 z8_1_1 z8_1_2 z8_2_0 z8_2_1
 obtain ⟨⟨z9_0_0,z9_0_1,z9_0_2,-⟩,⟨z9_1_0,z9_1_1,z9_1_2,-⟩,⟨z9_2_0,z9_2_1,-⟩,-⟩ := hS.cells
 replace G3 := hide ((unhide G3).kept hb9)
 replace G4 := hide ((unhide G4).kept hb9)
 have hltw9_0 : w4.heap.size < w9.heap.size := block_lt (hS.bx ⟨w4.heap.size,#[.bool s0,.slice A4 N4 C4,.int .i64 x0],26⟩ (by simp))
 have hltw9_1 : w2.heap.size < w9.heap.size := block_lt (hS.bx ⟨w2.heap.size,#[.bool s0,.slice A3 N3 C3,.int .i64 x0],26⟩ (by simp))
 have hltw9_2 : w.heap.size < w9.heap.size := block_lt (hS.bx ⟨w.heap.size,#[.int .i64 E,.int .i64 F],38⟩ (by simp))
 replace hS := hS.alloc #[.bool false,.slice none 0 0,.int .i64 0] 26
 replace G3 := hide ((unhide G3).alloc (.cells #[.bool false,.slice none 0 0,.int .i64 0] 26))
 replace G4 := hide ((unhide G4).alloc (.cells #[.bool false,.slice none 0 0,.int .i64 0] 26))
 go_wp2_with fail
 refine (Double4 _).mono ?_
 rintro e w10 ⟨rfl,hb10⟩
 replace hS := hS.kept hb10
 clear z9_0_0 z9_0_1 z9_0_2 z9_1_0 z9_1_1 z9_1_2 z9_2_0 z9_2_1
 obtain ⟨⟨z10_0_0,z10_0_1,z10_0_2,-⟩,⟨z10_1_0,z10_1_1,z10_1_2,-⟩,⟨z10_2_0,z10_2_1,z10_2_2,-⟩,⟨z10_3_0,z10_3_1,-⟩,-⟩ := hS.cells
 replace G3 := hide ((unhide G3).kept hb10)
 replace G4 := hide ((unhide G4).kept hb10)
 go_wp2_with fail
 refine (unhide hvy _).mono ?_
 rintro e w11 ⟨rfl,hb11⟩
 replace hS := hS.kept hb11
 clear z10_0_0 z10_0_1 z10_0_2 z10_1_0 z10_1_1 z10_1_2 z10_2_0 z10_2_1 z10_2_2 z10_3_0 z10_3_1
 obtain ⟨⟨z11_0_0,z11_0_1,z11_0_2,-⟩,⟨z11_1_0,z11_1_1,z11_1_2,-⟩,⟨z11_2_0,z11_2_1,z11_2_2,-⟩,⟨z11_3_0,z11_3_1,-⟩,-⟩ := hS.cells
 replace G3 := hide ((unhide G3).kept hb11)
 replace G4 := hide ((unhide G4).kept hb11)
 have hltw11_0 : w9.heap.size < w11.heap.size := block_lt (hS.bx ⟨w9.heap.size,#[.bool false,.slice none 0 0,.int .i64 0],26⟩ (by simp))
 have hltw11_1 : w4.heap.size < w11.heap.size := block_lt (hS.bx ⟨w4.heap.size,#[.bool s0,.slice A4 N4 C4,.int .i64 x0],26⟩ (by simp))
 have hltw11_2 : w2.heap.size < w11.heap.size := block_lt (hS.bx ⟨w2.heap.size,#[.bool s0,.slice A3 N3 C3,.int .i64 x0],26⟩ (by simp))
 have hltw11_3 : w.heap.size < w11.heap.size := block_lt (hS.bx ⟨w.heap.size,#[.int .i64 E,.int .i64 F],38⟩ (by simp))
 replace hS := hS.alloc #[.bool false,.slice none 0 0,.int .i64 0] 26
 replace G3 := hide ((unhide G3).alloc (.cells #[.bool false,.slice none 0 0,.int .i64 0] 26))
 replace G4 := hide ((unhide G4).alloc (.cells #[.bool false,.slice none 0 0,.int .i64 0] 26))
 go_wp2
 go_ret
 first | exact ⟨rfl,hS.fr⟩ | exact ⟨rfl,hS.fr.drew⟩ | exact ⟨rfl,hS.fr.drew.drew⟩
end Go.Proofs.YtjemjhaphannaaaDoor
