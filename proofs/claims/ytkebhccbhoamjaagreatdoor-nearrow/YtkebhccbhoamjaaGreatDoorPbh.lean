/- Of what NearRowRow stands on: NrEnd0 NrHalf NrAwake NrRowA NrBesW NrBesLaw. -/
import Derived.Test.YtkebhccbhoamjaaGreatDoorPbe
import Derived.Test.YtkebhccbhoamjaaGreatDoorPau
import Derived.Test.YtkebhccbhoamjaaGreatDoorPbf
import Derived.Test.YtkebhccbhoamjaaGreatDoorPbg
import Derived.Test.YtkebhccbhoamjaaGreatDoorPbc
import Derived.Test.YtkebhccbhoamjaaGreatDoorPaj
namespace Go.Proofs.YtkebhccbhoamjaaGreatDoor
open Go.RowKit
set_option maxHeartbeats 8000000
set_option maxRecDepth 20000
structure Nen05S where
 (b0 b1 b2 b3 : Bool)
 (v0 v1 : Value)
 bs9 : List En
 os9 : Os
structure Nen05R (w : World) (E F S : Int) (p : Nat) (s : Bool) (m : Nat) (xq : Int) (up : Int) (su : Bool) (xu : Int) (rh : Bool) (vh : Nat) (yh : Int) (x1_A11 : Option Addr) (x1_N11 : Nat) (x1_C11 : Nat) (x1_g15 : Nat) (x4_A14 : Option Addr) (x4_N14 : Nat) (x4_C14 : Nat) (x4_A15 : Option Addr) (x4_N15 : Nat) (x4_C15 : Nat) (S9 : Nat) (b0 b1 b2 b3 : Bool) (v0 v1 : Value)  (bs9 : List En) (os9 : Os) (w' : World) : Prop where
 hc : Rc w S9 [] [] [(x4_A15,x4_N15,x4_C15,vh),(x1_A11,x1_N11,x1_C11,m)] none bs9 os9 w'
 f0 : b0 = true → v0 = .agg #[.bool s,.slice x1_A11 x1_N11 x1_C11,.int .i64 xq]
 f1 : b1 = true → v1 = .agg #[.bool rh,.slice x4_A15 x4_N15 x4_C15,.int .i64 yh]
 o0_0 : b2 = false → ⟨w.heap.size,#[.bool s,.slice x1_A11 x1_N11 x1_C11,.int .i64 xq],33⟩ ∈ bs9
 o0_1 : b2 = true → ⟨w.heap.size,#[.bool s,.slice x1_A11 x1_N11 x1_C11,.int .i64 xq],33⟩ ∈ bs9
 o1_0 : b3 = false → ⟨w.heap.size + 1,#[.bool rh,.slice x4_A15 x4_N15 x4_C15,.int .i64 yh],33⟩ ∈ bs9
 o1_1 : b3 = true → ⟨w.heap.size + 1,#[.bool rh,.slice x4_A15 x4_N15 x4_C15,.int .i64 yh],33⟩ ∈ bs9
 g2_0 : b2 = true → b0 = true
 g3_1 : b3 = true → b1 = true
 g3_2 : b3 = true → b2 = true
def Nen05I (w : World) (E F S : Int) (p : Nat) (s : Bool) (m : Nat) (xq : Int) (up : Int) (su : Bool) (xu : Int) (rh : Bool) (vh : Nat) (yh : Int) (x1_A11 : Option Addr) (x1_N11 : Nat) (x1_C11 : Nat) (x1_g15 : Nat) (x4_A14 : Option Addr) (x4_N14 : Nat) (x4_C14 : Nat) (x4_A15 : Option Addr) (x4_N15 : Nat) (x4_C15 : Nat) (S9 : Nat) (l : Array Bool) (act : Act) (w' : World) : Nen05S → Prop
 | ⟨b0,b1,b2,b3,v0,v1,bs9,os9⟩ => l = #[b0,b1,b2,b3] ∧ act = { tmps := #[.pointer (some ⟨p,0,none⟩),undef,.pointer (some ⟨w.heap.size,0,none⟩),.pointer (some ⟨w.heap.size + 1,0,none⟩),.pointer (some ⟨x1_g15,0,none⟩),.pointer (some ⟨p,0,none⟩),.pointer (some ⟨p,0,none⟩),.pointer (some ⟨p,4,none⟩),.pointer (some ⟨p,0,none⟩),.pointer (some ⟨p,0,none⟩),.pointer (some ⟨p,0,none⟩),.agg #[.int .i64 E,.int .i64 F],.pointer (some ⟨p,0,none⟩),.pointer (some ⟨p,0,none⟩),.pointer (some ⟨p,2,none⟩),.int .u64 0,.tuple #[.agg #[.bool s,.slice x1_A11 x1_N11 x1_C11,.int .i64 xq],.int .i64 0],.agg #[.bool s,.slice x1_A11 x1_N11 x1_C11,.int .i64 xq],.int .i64 0,.agg #[.bool s,.slice x1_A11 x1_N11 x1_C11,.int .i64 xq],.agg #[.bool s,.slice x1_A11 x1_N11 x1_C11,.int .i64 xq],.agg #[.bool s,.slice x1_A11 x1_N11 x1_C11,.int .i64 xq],.pointer (some ⟨p,0,none⟩),.pointer (some ⟨p,0,none⟩),.pointer (some ⟨p,2,none⟩),.int .u64 0,.bool false,undef,undef,undef,undef,undef,undef,undef,undef,undef,undef,undef,undef,undef,undef,undef,undef,.pointer (some ⟨p,0,none⟩),.pointer (some ⟨p,0,none⟩),.pointer (some ⟨p,2,none⟩),.int .u64 0,.pointer (some ⟨p,0,none⟩),.pointer (some ⟨p,0,none⟩),.pointer (some ⟨p,0,none⟩),.agg #[.int .i64 E,.int .i64 F],.int .u64 S,.bool true,.pointer (some ⟨p,0,none⟩),.agg #[.bool s,.slice x1_A11 x1_N11 x1_C11,.int .i64 xq],.pointer (some ⟨p,0,none⟩),.pointer (some ⟨p,0,none⟩),.pointer (some ⟨p,0,none⟩),.pointer (some ⟨p,0,none⟩),.agg #[.int .i64 E,.int .i64 F],.pointer (some ⟨p,0,none⟩),.pointer (some ⟨p,0,none⟩),.pointer (some ⟨p,2,none⟩),.int .u64 0,.tuple #[.int .u64 up,.int .i64 0],.int .u64 up,.int .i64 0,.agg #[.bool su,.slice x4_A14 x4_N14 x4_C14,.int .i64 xu],.agg #[.bool rh,.slice x4_A15 x4_N15 x4_C15,.int .i64 yh],v0,v1],defers := [] } ∧ Nen05R w E F S p s m xq up su xu rh vh yh x1_A11 x1_N11 x1_C11 x1_g15 x4_A14 x4_N14 x4_C14 x4_A15 x4_N15 x4_C15 S9 b0 b1 b2 b3 v0 v1 bs9 os9 w'
structure Nen04S where
 (b0 b1 b2 b3 b4 b5 b6 b7 b8 b9 b10 b11 b12 b13 b14 b15 b16 : Bool)
 (v0 v1 v2 v3 v4 v5 v6 v7 v8 v9 v10 v11 v12 v13 v14 v15 : Value)
 (A14 : Option Addr)
 (N14 C14 : Nat)
 (A15 : Option Addr)
 (N15 C15 : Nat)
 bs9 : List En
 os9 : Os
structure Nen04R (w : World) (E F S : Int) (md p : Nat) (s : Bool) (m : Nat) (xq : Int) (up : Int) (su : Bool) (mu : Nat) (xu : Int) (rh : Bool) (vh : Nat) (yh : Int) (x1_A11 : Option Addr) (x1_N11 : Nat) (x1_C11 : Nat) (x1_g15 : Nat) (S9 : Nat) (b0 b1 b2 b3 b4 b5 b6 b7 b8 b9 b10 b11 b12 b13 b14 b15 b16 : Bool) (v0 v1 v2 v3 v4 v5 v6 v7 v8 v9 v10 v11 v12 v13 v14 v15 : Value) (A14 : Option Addr) (N14 C14 : Nat) (A15 : Option Addr) (N15 C15 : Nat) (bs9 : List En) (os9 : Os) (w' : World) : Prop where
 hc : Rc w S9 [⟨w.heap.size,#[.bool s,.slice x1_A11 x1_N11 x1_C11,.int .i64 xq],33⟩,⟨x1_g15,#[.bool s,.slice x1_A11 x1_N11 x1_C11,.int .i64 xq],33⟩,⟨p,#[.int .i64 E,.int .i64 F,.int .u64 0,.int .u8 (md : Int),.int .i64 0],109⟩] [] [(x1_A11,x1_N11,x1_C11,m)] none bs9 os9 w'
 f0 : b0 = true → v0 = .pointer (some ⟨p,0,none⟩)
 f1 : b1 = true → v1 = .agg #[.bool s,.slice x1_A11 x1_N11 x1_C11,.int .i64 xq]
 f2 : b2 = true → v2 = .pointer (some ⟨p,0,none⟩)
 f3 : b3 = true → v3 = .pointer (some ⟨p,0,none⟩)
 f4 : b4 = true → v4 = .pointer (some ⟨p,0,none⟩)
 f5 : b5 = true → v5 = .pointer (some ⟨p,0,none⟩)
 f6 : b6 = true → v6 = .agg #[.int .i64 E,.int .i64 F]
 f7 : b7 = true → v7 = .pointer (some ⟨p,0,none⟩)
 f8 : b8 = true → v8 = .pointer (some ⟨p,0,none⟩)
 f9 : b9 = true → v9 = .pointer (some ⟨p,2,none⟩)
 f10 : b10 = true → v10 = .int .u64 0
 f11 : b11 = true → v11 = .tuple #[.int .u64 up,.int .i64 0]
 f12 : b12 = true → v12 = .int .u64 up
 f13 : b13 = true → v13 = .int .i64 0
 f14 : b14 = true → v14 = .agg #[.bool su,.slice A14 N14 C14,.int .i64 xu] ∧ (A14,N14,C14,mu) ∈ os9
 f15 : b15 = true → v15 = .agg #[.bool rh,.slice A15 N15 C15,.int .i64 yh] ∧ (A15,N15,C15,vh) ∈ os9
 o0_0 : b16 = false → ⟨w.heap.size + 1,#[.bool s,.slice x1_A11 x1_N11 x1_C11,.int .i64 xq],33⟩ ∈ bs9
 o0_1 : b16 = true → ⟨w.heap.size + 1,#[.bool rh,.slice A15 N15 C15,.int .i64 yh],33⟩ ∈ bs9
 g15_14 : b15 = true → b14 = true
 g16_15 : b16 = true → b15 = true
 g16_14 : b16 = true → b14 = true
def Nen04I (w : World) (E F S : Int) (md p : Nat) (s : Bool) (m : Nat) (xq : Int) (up : Int) (su : Bool) (mu : Nat) (xu : Int) (rh : Bool) (vh : Nat) (yh : Int) (x1_A11 : Option Addr) (x1_N11 : Nat) (x1_C11 : Nat) (x1_g15 : Nat) (S9 : Nat) (l : Array Bool) (act : Act) (w' : World) : Nen04S → Prop
 | ⟨b0,b1,b2,b3,b4,b5,b6,b7,b8,b9,b10,b11,b12,b13,b14,b15,b16,v0,v1,v2,v3,v4,v5,v6,v7,v8,v9,v10,v11,v12,v13,v14,v15,A14,N14,C14,A15,N15,C15,bs9,os9⟩ => l = #[b0,b1,b2,b3,b4,b5,b6,b7,b8,b9,b10,b11,b12,b13,b14,b15,b16] ∧ act = { tmps := #[.pointer (some ⟨p,0,none⟩),undef,.pointer (some ⟨w.heap.size,0,none⟩),.pointer (some ⟨w.heap.size + 1,0,none⟩),.pointer (some ⟨x1_g15,0,none⟩),.pointer (some ⟨p,0,none⟩),.pointer (some ⟨p,0,none⟩),.pointer (some ⟨p,4,none⟩),.pointer (some ⟨p,0,none⟩),.pointer (some ⟨p,0,none⟩),.pointer (some ⟨p,0,none⟩),.agg #[.int .i64 E,.int .i64 F],.pointer (some ⟨p,0,none⟩),.pointer (some ⟨p,0,none⟩),.pointer (some ⟨p,2,none⟩),.int .u64 0,.tuple #[.agg #[.bool s,.slice x1_A11 x1_N11 x1_C11,.int .i64 xq],.int .i64 0],.agg #[.bool s,.slice x1_A11 x1_N11 x1_C11,.int .i64 xq],.int .i64 0,.agg #[.bool s,.slice x1_A11 x1_N11 x1_C11,.int .i64 xq],.agg #[.bool s,.slice x1_A11 x1_N11 x1_C11,.int .i64 xq],.agg #[.bool s,.slice x1_A11 x1_N11 x1_C11,.int .i64 xq],.pointer (some ⟨p,0,none⟩),.pointer (some ⟨p,0,none⟩),.pointer (some ⟨p,2,none⟩),.int .u64 0,.bool false,undef,undef,undef,undef,undef,undef,undef,undef,undef,undef,undef,undef,undef,undef,undef,undef,.pointer (some ⟨p,0,none⟩),.pointer (some ⟨p,0,none⟩),.pointer (some ⟨p,2,none⟩),.int .u64 0,.pointer (some ⟨p,0,none⟩),.pointer (some ⟨p,0,none⟩),.pointer (some ⟨p,0,none⟩),.agg #[.int .i64 E,.int .i64 F],.int .u64 S,.bool true,v0,v1,v2,v3,v4,v5,v6,v7,v8,v9,v10,v11,v12,v13,v14,v15,undef,undef],defers := [] } ∧ Nen04R w E F S md p s m xq up su mu xu rh vh yh x1_A11 x1_N11 x1_C11 x1_g15 S9 b0 b1 b2 b3 b4 b5 b6 b7 b8 b9 b10 b11 b12 b13 b14 b15 b16 v0 v1 v2 v3 v4 v5 v6 v7 v8 v9 v10 v11 v12 v13 v14 v15 A14 N14 C14 A15 N15 C15 bs9 os9 w'
structure Nen03S where
 (b0 b1 b2 b3 b4 b5 b6 b7 b8 b9 : Bool)
 (v0 v1 v2 v3 v4 v5 v6 v7 v8 v9 : Value)
 bs9 : List En
 os9 : Os
structure Nen03R (w : World) (E F S : Int) (md p : Nat) (s : Bool) (m : Nat) (xq : Int) (x1_A11 : Option Addr) (x1_N11 : Nat) (x1_C11 : Nat) (x1_g15 : Nat) (S9 : Nat) (b0 b1 b2 b3 b4 b5 b6 b7 b8 b9 : Bool) (v0 v1 v2 v3 v4 v5 v6 v7 v8 v9 : Value)  (bs9 : List En) (os9 : Os) (w' : World) : Prop where
 hc : Rc w S9 [⟨w.heap.size + 1,#[.bool s,.slice x1_A11 x1_N11 x1_C11,.int .i64 xq],33⟩,⟨w.heap.size,#[.bool s,.slice x1_A11 x1_N11 x1_C11,.int .i64 xq],33⟩,⟨x1_g15,#[.bool s,.slice x1_A11 x1_N11 x1_C11,.int .i64 xq],33⟩,⟨p,#[.int .i64 E,.int .i64 F,.int .u64 0,.int .u8 (md : Int),.int .i64 0],109⟩] [] [(x1_A11,x1_N11,x1_C11,m)] none bs9 os9 w'
 f0 : b0 = true → v0 = .pointer (some ⟨p,0,none⟩)
 f1 : b1 = true → v1 = .pointer (some ⟨p,0,none⟩)
 f2 : b2 = true → v2 = .pointer (some ⟨p,2,none⟩)
 f3 : b3 = true → v3 = .int .u64 0
 f4 : b4 = true → v4 = .pointer (some ⟨p,0,none⟩)
 f5 : b5 = true → v5 = .pointer (some ⟨p,0,none⟩)
 f6 : b6 = true → v6 = .pointer (some ⟨p,0,none⟩)
 f7 : b7 = true → v7 = .agg #[.int .i64 E,.int .i64 F]
 f8 : b8 = true → v8 = .int .u64 S
 f9 : b9 = true → v9 = .bool true
def Nen03I (w : World) (E F S : Int) (md p : Nat) (s : Bool) (m : Nat) (xq : Int) (x1_A11 : Option Addr) (x1_N11 : Nat) (x1_C11 : Nat) (x1_g15 : Nat) (S9 : Nat) (l : Array Bool) (act : Act) (w' : World) : Nen03S → Prop
 | ⟨b0,b1,b2,b3,b4,b5,b6,b7,b8,b9,v0,v1,v2,v3,v4,v5,v6,v7,v8,v9,bs9,os9⟩ => l = #[b0,b1,b2,b3,b4,b5,b6,b7,b8,b9] ∧ act = { tmps := #[.pointer (some ⟨p,0,none⟩),undef,.pointer (some ⟨w.heap.size,0,none⟩),.pointer (some ⟨w.heap.size + 1,0,none⟩),.pointer (some ⟨x1_g15,0,none⟩),.pointer (some ⟨p,0,none⟩),.pointer (some ⟨p,0,none⟩),.pointer (some ⟨p,4,none⟩),.pointer (some ⟨p,0,none⟩),.pointer (some ⟨p,0,none⟩),.pointer (some ⟨p,0,none⟩),.agg #[.int .i64 E,.int .i64 F],.pointer (some ⟨p,0,none⟩),.pointer (some ⟨p,0,none⟩),.pointer (some ⟨p,2,none⟩),.int .u64 0,.tuple #[.agg #[.bool s,.slice x1_A11 x1_N11 x1_C11,.int .i64 xq],.int .i64 0],.agg #[.bool s,.slice x1_A11 x1_N11 x1_C11,.int .i64 xq],.int .i64 0,.agg #[.bool s,.slice x1_A11 x1_N11 x1_C11,.int .i64 xq],.agg #[.bool s,.slice x1_A11 x1_N11 x1_C11,.int .i64 xq],.agg #[.bool s,.slice x1_A11 x1_N11 x1_C11,.int .i64 xq],.pointer (some ⟨p,0,none⟩),.pointer (some ⟨p,0,none⟩),.pointer (some ⟨p,2,none⟩),.int .u64 0,.bool false,undef,undef,undef,undef,undef,undef,undef,undef,undef,undef,undef,undef,undef,undef,undef,undef,v0,v1,v2,v3,v4,v5,v6,v7,v8,v9,undef,undef,undef,undef,undef,undef,undef,undef,undef,undef,undef,undef,undef,undef,undef,undef,undef,undef],defers := [] } ∧ Nen03R w E F S md p s m xq x1_A11 x1_N11 x1_C11 x1_g15 S9 b0 b1 b2 b3 b4 b5 b6 b7 b8 b9 v0 v1 v2 v3 v4 v5 v6 v7 v8 v9 bs9 os9 w'
structure Nen02S where
 (b0 b1 b2 b3 : Bool)
 (v0 v1 : Value)
 bs9 : List En
 os9 : Os
structure Nen02R (w : World) (E F : Int) (md p : Nat) (s : Bool) (m : Nat) (xq : Int) (x1_A11 : Option Addr) (x1_N11 : Nat) (x1_C11 : Nat) (x1_g15 : Nat) (S9 : Nat) (b0 b1 b2 b3 : Bool) (v0 v1 : Value)  (bs9 : List En) (os9 : Os) (w' : World) : Prop where
 hc : Rc w S9 [⟨x1_g15,#[.bool s,.slice x1_A11 x1_N11 x1_C11,.int .i64 xq],33⟩,⟨p,#[.int .i64 E,.int .i64 F,.int .u64 0,.int .u8 (md : Int),.int .i64 0],109⟩] [] [(x1_A11,x1_N11,x1_C11,m)] none bs9 os9 w'
 f0 : b0 = true → v0 = .agg #[.bool s,.slice x1_A11 x1_N11 x1_C11,.int .i64 xq]
 f1 : b1 = true → v1 = .agg #[.bool s,.slice x1_A11 x1_N11 x1_C11,.int .i64 xq]
 o0_0 : b2 = false → ⟨w.heap.size,#[.bool false,.slice none 0 0,.int .i64 0],33⟩ ∈ bs9
 o0_1 : b2 = true → ⟨w.heap.size,#[.bool s,.slice x1_A11 x1_N11 x1_C11,.int .i64 xq],33⟩ ∈ bs9
 o1_0 : b3 = false → ⟨w.heap.size + 1,#[.bool false,.slice none 0 0,.int .i64 0],33⟩ ∈ bs9
 o1_1 : b3 = true → ⟨w.heap.size + 1,#[.bool s,.slice x1_A11 x1_N11 x1_C11,.int .i64 xq],33⟩ ∈ bs9
 g2_0 : b2 = true → b0 = true
 g3_1 : b3 = true → b1 = true
 g3_2 : b3 = true → b2 = true
def Nen02I (w : World) (E F : Int) (md p : Nat) (s : Bool) (m : Nat) (xq : Int) (x1_A11 : Option Addr) (x1_N11 : Nat) (x1_C11 : Nat) (x1_g15 : Nat) (S9 : Nat) (l : Array Bool) (act : Act) (w' : World) : Nen02S → Prop
 | ⟨b0,b1,b2,b3,v0,v1,bs9,os9⟩ => l = #[b0,b1,b2,b3] ∧ act = { tmps := #[.pointer (some ⟨p,0,none⟩),undef,.pointer (some ⟨w.heap.size,0,none⟩),.pointer (some ⟨w.heap.size + 1,0,none⟩),.pointer (some ⟨x1_g15,0,none⟩),.pointer (some ⟨p,0,none⟩),.pointer (some ⟨p,0,none⟩),.pointer (some ⟨p,4,none⟩),.pointer (some ⟨p,0,none⟩),.pointer (some ⟨p,0,none⟩),.pointer (some ⟨p,0,none⟩),.agg #[.int .i64 E,.int .i64 F],.pointer (some ⟨p,0,none⟩),.pointer (some ⟨p,0,none⟩),.pointer (some ⟨p,2,none⟩),.int .u64 0,.tuple #[.agg #[.bool s,.slice x1_A11 x1_N11 x1_C11,.int .i64 xq],.int .i64 0],.agg #[.bool s,.slice x1_A11 x1_N11 x1_C11,.int .i64 xq],.int .i64 0,.agg #[.bool s,.slice x1_A11 x1_N11 x1_C11,.int .i64 xq],v0,v1,undef,undef,undef,undef,undef,undef,undef,undef,undef,undef,undef,undef,undef,undef,undef,undef,undef,undef,undef,undef,undef,undef,undef,undef,undef,undef,undef,undef,undef,undef,undef,undef,undef,undef,undef,undef,undef,undef,undef,undef,undef,undef,undef,undef,undef,undef,undef,undef,undef],defers := [] } ∧ Nen02R w E F md p s m xq x1_A11 x1_N11 x1_C11 x1_g15 S9 b0 b1 b2 b3 v0 v1 bs9 os9 w'
structure Nen01S where
 (b0 b1 b2 b3 b4 b5 b6 b7 b8 b9 b10 b11 b12 b13 b14 b15 b16 : Bool)
 (v0 v1 v2 v3 v4 v5 v6 v7 v8 v9 v10 v11 v12 v13 v14 v15 : Value)
 (A11 : Option Addr)
 (N11 C11 : Nat)
 bs9 : List En
 os9 : Os
structure Nen01R (w : World) (E F : Int) (md p : Nat) (s : Bool) (m : Nat) (xq : Int) (S9 : Nat) (b0 b1 b2 b3 b4 b5 b6 b7 b8 b9 b10 b11 b12 b13 b14 b15 b16 : Bool) (v0 v1 v2 v3 v4 v5 v6 v7 v8 v9 v10 v11 v12 v13 v14 v15 : Value) (A11 : Option Addr) (N11 C11 : Nat) (bs9 : List En) (os9 : Os) (w' : World) : Prop where
 hc : Rc w S9 [⟨w.heap.size + 1,#[.bool false,.slice none 0 0,.int .i64 0],33⟩,⟨w.heap.size,#[.bool false,.slice none 0 0,.int .i64 0],33⟩,⟨p,#[.int .i64 E,.int .i64 F,.int .u64 0,.int .u8 (md : Int),.int .i64 0],109⟩] [] [] none bs9 os9 w'
 f0 : b0 = true → v0 = .pointer (some ⟨p,0,none⟩)
 f1 : b1 = true → v1 = .pointer (some ⟨p,0,none⟩)
 f2 : b2 = true → v2 = .pointer (some ⟨p,4,none⟩)
 f3 : b3 = true → v3 = .pointer (some ⟨p,0,none⟩)
 f4 : b4 = true → v4 = .pointer (some ⟨p,0,none⟩)
 f5 : b5 = true → v5 = .pointer (some ⟨p,0,none⟩)
 f6 : b6 = true → v6 = .agg #[.int .i64 E,.int .i64 F]
 f7 : b7 = true → v7 = .pointer (some ⟨p,0,none⟩)
 f8 : b8 = true → v8 = .pointer (some ⟨p,0,none⟩)
 f9 : b9 = true → v9 = .pointer (some ⟨p,2,none⟩)
 f10 : b10 = true → v10 = .int .u64 0
 f11 : b11 = true → v11 = .tuple #[.agg #[.bool s,.slice A11 N11 C11,.int .i64 xq],.int .i64 0] ∧ (A11,N11,C11,m) ∈ os9
 f12 : b12 = true → v12 = .agg #[.bool s,.slice A11 N11 C11,.int .i64 xq]
 f13 : b13 = true → v13 = .int .i64 0
 f14 : b14 = true → v14 = .agg #[.bool s,.slice A11 N11 C11,.int .i64 xq]
 f15 : b15 = true → AlN bs9 S9 v15 33 3
 f16 : b16 = true → StN bs9 S9 v15 #[.bool s,.slice A11 N11 C11,.int .i64 xq] 33
 g12_11 : b12 = true → b11 = true
 g13_11 : b13 = true → b11 = true
 g14_11 : b14 = true → b11 = true
 g16_15 : b16 = true → b15 = true
 g16_14 : b16 = true → b14 = true
 g16_11 : b16 = true → b11 = true
def Nen01I (w : World) (E F : Int) (md p : Nat) (s : Bool) (m : Nat) (xq : Int) (S9 : Nat) (l : Array Bool) (act : Act) (w' : World) : Nen01S → Prop
 | ⟨b0,b1,b2,b3,b4,b5,b6,b7,b8,b9,b10,b11,b12,b13,b14,b15,b16,v0,v1,v2,v3,v4,v5,v6,v7,v8,v9,v10,v11,v12,v13,v14,v15,A11,N11,C11,bs9,os9⟩ => l = #[b0,b1,b2,b3,b4,b5,b6,b7,b8,b9,b10,b11,b12,b13,b14,b15,b16] ∧ act = { tmps := #[.pointer (some ⟨p,0,none⟩),undef,.pointer (some ⟨w.heap.size,0,none⟩),.pointer (some ⟨w.heap.size + 1,0,none⟩),v15,v0,v1,v2,v3,v4,v5,v6,v7,v8,v9,v10,v11,v12,v13,v14,undef,undef,undef,undef,undef,undef,undef,undef,undef,undef,undef,undef,undef,undef,undef,undef,undef,undef,undef,undef,undef,undef,undef,undef,undef,undef,undef,undef,undef,undef,undef,undef,undef,undef,undef,undef,undef,undef,undef,undef,undef,undef,undef,undef,undef,undef,undef,undef,undef,undef,undef],defers := [] } ∧ Nen01R w E F md p s m xq S9 b0 b1 b2 b3 b4 b5 b6 b7 b8 b9 b10 b11 b12 b13 b14 b15 b16 v0 v1 v2 v3 v4 v5 v6 v7 v8 v9 v10 v11 v12 v13 v14 v15 A11 N11 C11 bs9 os9 w'
theorem ends_0 (w : World) (E F S : Int) (md p : Nat) (s : Bool) (m : Nat) (xq : Int) (up : Int) (su : Bool) (mu : Nat) (xu : Int) (rh : Bool) (vh : Nat) (yh : Int) (hT : Tb w) (hp : w.heap[p]? = some (.cells #[.int .i64 E,.int .i64 F,.int .u64 0,.int .u8 (md : Int),.int .i64 0] 109 (0,0))) (HK : Hid (Mk1 false (-1))) (HV : Hid (Vals E F 0 s m xq)) (HSg : Tel 120 #[.agg #[.int .i64 E,.int .i64 F]] (.int .u64 S)) (hbS : ((0 : Int) != S) = true) (HUp : Tel 10 #[.agg #[.int .i64 E,.int .i64 F],.int .u64 0] (.tuple #[.int .u64 up,.int .i64 0])) (HWu : Hid (∀ W : World,W.heap[p]? = some (.cells #[.int .i64 E,.int .i64 F,.int .u64 0,.int .u8 (md : Int),.int .i64 0] 109 (0,0)) → Tb W → Calls Tryz.prog 130 #[.pointer (some ⟨p,0,none⟩),.int .u64 up,.int .i64 0] W fun e w' => (∃ A N C,e = .returned (.agg #[.bool su,.slice A N C,.int .i64 xu]) ∧ Mine w' W.heap.size A N C mu) ∧ Below W.heap.size W w')) (HBh : Hid (Bord md s m xq su mu xu rh vh yh))  :
  Calls Tryz.prog 72 #[.pointer (some ⟨p,0,none⟩)] w fun e w' => (∃ A N C A' N' C',e = .returned (.tuple #[.agg #[.bool s,.slice A N C,.int .i64 xq],.agg #[.bool rh,.slice A' N' C',.int .i64 yh]]) ∧ Mine w' w.heap.size A N C m ∧ Mine w' w.heap.size A' N' C' vh) ∧ Below w.heap.size w w' := by
 have HT := hide hT
 have HRN : Hid (Rn w p 4) := hide ⟨_,_,hp,rfl⟩
 have hlt0 : p < w.heap.size := block_lt hp
 have hS : Rs w w none [⟨p,#[.int .i64 E,.int .i64 F,.int .u64 0,.int .u8 (md : Int),.int .i64 0],109⟩] [] [] := ⟨trivial,fun x hx => by rcases List.mem_cons.1 hx with rfl | hx; exact ⟨hp,trivial,by simp only []; decide,by simp [NoLimb]⟩; exact absurd hx List.not_mem_nil,(fun _ h => nomatch h),(fun _ h => nomatch h),Below.refl _ _⟩
 clear hp hT
 replace hS := hS.alloc #[.bool false,.slice none 0 0,.int .i64 0] 33
 try simp only [World.size_alloc] at hS
 replace hS := hS.alloc #[.bool false,.slice none 0 0,.int .i64 0] 33
 try simp only [World.size_alloc] at hS
 go_enter Tryz.func72,Tryz.ntmps72
 go_wp2_with fail
 refine wp_region_any (by kernel_rfl) ?_
 change wpAny _ _ _ _ _ _ _ (World.drew _)
 have hS9 := hS.drew
 have hsW9 : (World.drew ((w.alloc (.cells #[.bool false,.slice none 0 0,.int .i64 0] 33)).alloc (.cells #[.bool false,.slice none 0 0,.int .i64 0] 33))).heap.size = w.heap.size + 1 + 1 := by first | rfl | simp
 generalize World.drew ((w.alloc (.cells #[.bool false,.slice none 0 0,.int .i64 0] 33)).alloc (.cells #[.bool false,.slice none 0 0,.int .i64 0] 33)) = Wd at hS9 hsW9 ⊢
 obtain ⟨S9,hS9z⟩ : ∃ x,x = Wd.heap.size := ⟨_,rfl⟩
 have hC9 := Rc.start (bs := [⟨w.heap.size + 1,#[.bool false,.slice none 0 0,.int .i64 0],33⟩,⟨w.heap.size,#[.bool false,.slice none 0 0,.int .i64 0],33⟩,⟨p,#[.int .i64 E,.int .i64 F,.int .u64 0,.int .u8 (md : Int),.int .i64 0],109⟩]) hS9 (by simp)
 rw [← hS9z] at hC9
 refine wpAny_inv (fun l act w' => ∃ σ,Nen01I w E F md p s m xq S9 l act w' σ) ?_ ?_ _ _ _ _ ?_ ?_
 ·intro l act w' i9 hI9 hi9 hl9
  have hin9 : i9 < 17 := by
   by_cases h : i9 < 17
   ·exact h
   ·obtain ⟨⟨⟩,rfl,_⟩ := hI9
    rw [Array.getElem?_eq_none (by simp; omega)] at hl9; cases hl9
  have hcase : i9 = 0 ∨ i9 = 1 ∨ i9 = 2 ∨ i9 = 3 ∨ i9 = 4 ∨ i9 = 5 ∨ i9 = 6 ∨ i9 = 7 ∨ i9 = 8 ∨ i9 = 9 ∨ i9 = 10 ∨ i9 = 11 ∨ i9 = 12 ∨ i9 = 13 ∨ i9 = 14 ∨ i9 = 15 ∨ i9 = 16 := by omega
  clear hin9
  obtain ⟨⟨b0,b1,b2,b3,b4,b5,b6,b7,b8,b9,b10,b11,b12,b13,b14,b15,b16,v0,v1,v2,v3,v4,v5,v6,v7,v8,v9,v10,v11,v12,v13,v14,v15,A11,N11,C11,bs9,os9⟩,rfl,rfl,hR⟩ := hI9
  rcases hcase with rfl | rfl | rfl | rfl | rfl | rfl | rfl | rfl | rfl | rfl | rfl | rfl | rfl | rfl | rfl | rfl | rfl
  ·obtain rfl : b0 = false := by simpa using hl9
   have hc := hR.hc
   refine wpOp_step rfl fun K hK => ?_
   go_simp
   exact hK _ _ ⟨⟨_,_,_,_,_,_,_,_,_,_,_,_,_,_,_,_,_,_,_,_,_,_,_,_,_,_,_,_,_,_,_,_,_,A11,N11,C11,_,_⟩,rfl,rfl,{ hR with hc := hc,f0 := (fun _ => rfl) }⟩
  ·obtain rfl : b1 = false := by simpa using hl9
   obtain ⟨o9,ho9,hd9⟩ := (mem_ready.1 hi9).2
   cases ho9
   have e0 : b0 = true := hd9 ⟨0,.data⟩ (by simp) rfl
   subst e0
   have h9 := hR.f0 rfl
   subst h9
   have hc := hR.hc
   refine wpOp_step rfl fun K hK => ?_
   go_simp
   exact hK _ _ ⟨⟨_,_,_,_,_,_,_,_,_,_,_,_,_,_,_,_,_,_,_,_,_,_,_,_,_,_,_,_,_,_,_,_,_,A11,N11,C11,_,_⟩,rfl,rfl,{ hR with hc := hc,f1 := (fun _ => rfl) }⟩
  ·obtain rfl : b2 = false := by simpa using hl9
   obtain ⟨o9,ho9,hd9⟩ := (mem_ready.1 hi9).2
   cases ho9
   have e1 : b1 = true := hd9 ⟨1,.data⟩ (by simp) rfl
   subst e1
   have h9 := hR.f1 rfl
   subst h9
   have hc := hR.hc
   refine wpOp_step rfl fun K hK => ?_
   go_simp
   exact hK _ _ ⟨⟨_,_,_,_,_,_,_,_,_,_,_,_,_,_,_,_,_,_,_,_,_,_,_,_,_,_,_,_,_,_,_,_,_,A11,N11,C11,_,_⟩,rfl,rfl,{ hR with hc := hc,f2 := (fun _ => rfl) }⟩
  ·obtain rfl : b3 = false := by simpa using hl9
   have hc := hR.hc
   refine wpOp_step rfl fun K hK => ?_
   go_simp
   exact hK _ _ ⟨⟨_,_,_,_,_,_,_,_,_,_,_,_,_,_,_,_,_,_,_,_,_,_,_,_,_,_,_,_,_,_,_,_,_,A11,N11,C11,_,_⟩,rfl,rfl,{ hR with hc := hc,f3 := (fun _ => rfl) }⟩
  ·obtain rfl : b4 = false := by simpa using hl9
   obtain ⟨o9,ho9,hd9⟩ := (mem_ready.1 hi9).2
   cases ho9
   have e3 : b3 = true := hd9 ⟨3,.data⟩ (by simp) rfl
   subst e3
   have h9 := hR.f3 rfl
   subst h9
   have hc := hR.hc
   refine wpOp_step rfl fun K hK => ?_
   go_simp
   exact hK _ _ ⟨⟨_,_,_,_,_,_,_,_,_,_,_,_,_,_,_,_,_,_,_,_,_,_,_,_,_,_,_,_,_,_,_,_,_,A11,N11,C11,_,_⟩,rfl,rfl,{ hR with hc := hc,f4 := (fun _ => rfl) }⟩
  ·obtain rfl : b5 = false := by simpa using hl9
   obtain ⟨o9,ho9,hd9⟩ := (mem_ready.1 hi9).2
   cases ho9
   have e4 : b4 = true := hd9 ⟨4,.data⟩ (by simp) rfl
   subst e4
   have h9 := hR.f4 rfl
   subst h9
   have hc := hR.hc
   refine wpOp_step rfl fun K hK => ?_
   go_simp
   exact hK _ _ ⟨⟨_,_,_,_,_,_,_,_,_,_,_,_,_,_,_,_,_,_,_,_,_,_,_,_,_,_,_,_,_,_,_,_,_,A11,N11,C11,_,_⟩,rfl,rfl,{ hR with hc := hc,f5 := (fun _ => rfl) }⟩
  ·obtain rfl : b6 = false := by simpa using hl9
   obtain ⟨o9,ho9,hd9⟩ := (mem_ready.1 hi9).2
   cases ho9
   have e5 : b5 = true := hd9 ⟨5,.data⟩ (by simp) rfl
   subst e5
   have h9 := hR.f5 rfl
   subst h9
   have hc := hR.hc
   have c9_0 := hc.st.cellAt (hc.old ⟨p,#[.int .i64 E,.int .i64 F,.int .u64 0,.int .u8 (md : Int),.int .i64 0],109⟩ (by simp)).1 0 (.int .i64 E) rfl
   have c9_1 := hc.st.cellAt (hc.old ⟨p,#[.int .i64 E,.int .i64 F,.int .u64 0,.int .u8 (md : Int),.int .i64 0],109⟩ (by simp)).1 1 (.int .i64 F) rfl
   simp only [] at c9_0 c9_1
   refine wpOp_step rfl fun K hK => ?_
   go_simp
   exact hK _ _ ⟨⟨_,_,_,_,_,_,_,_,_,_,_,_,_,_,_,_,_,_,_,_,_,_,_,_,_,_,_,_,_,_,_,_,_,A11,N11,C11,_,_⟩,rfl,rfl,{ hR with hc := hc,f6 := (fun _ => rfl) }⟩
  ·obtain rfl : b7 = false := by simpa using hl9
   have hc := hR.hc
   refine wpOp_step rfl fun K hK => ?_
   go_simp
   exact hK _ _ ⟨⟨_,_,_,_,_,_,_,_,_,_,_,_,_,_,_,_,_,_,_,_,_,_,_,_,_,_,_,_,_,_,_,_,_,A11,N11,C11,_,_⟩,rfl,rfl,{ hR with hc := hc,f7 := (fun _ => rfl) }⟩
  ·obtain rfl : b8 = false := by simpa using hl9
   obtain ⟨o9,ho9,hd9⟩ := (mem_ready.1 hi9).2
   cases ho9
   have e7 : b7 = true := hd9 ⟨7,.data⟩ (by simp) rfl
   subst e7
   have h9 := hR.f7 rfl
   subst h9
   have hc := hR.hc
   refine wpOp_step rfl fun K hK => ?_
   go_simp
   exact hK _ _ ⟨⟨_,_,_,_,_,_,_,_,_,_,_,_,_,_,_,_,_,_,_,_,_,_,_,_,_,_,_,_,_,_,_,_,_,A11,N11,C11,_,_⟩,rfl,rfl,{ hR with hc := hc,f8 := (fun _ => rfl) }⟩
  ·obtain rfl : b9 = false := by simpa using hl9
   obtain ⟨o9,ho9,hd9⟩ := (mem_ready.1 hi9).2
   cases ho9
   have e8 : b8 = true := hd9 ⟨8,.data⟩ (by simp) rfl
   subst e8
   have h9 := hR.f8 rfl
   subst h9
   have hc := hR.hc
   refine wpOp_step rfl fun K hK => ?_
   go_simp
   exact hK _ _ ⟨⟨_,_,_,_,_,_,_,_,_,_,_,_,_,_,_,_,_,_,_,_,_,_,_,_,_,_,_,_,_,_,_,_,_,A11,N11,C11,_,_⟩,rfl,rfl,{ hR with hc := hc,f9 := (fun _ => rfl) }⟩
  ·obtain rfl : b10 = false := by simpa using hl9
   obtain ⟨o9,ho9,hd9⟩ := (mem_ready.1 hi9).2
   cases ho9
   have e9 : b9 = true := hd9 ⟨9,.data⟩ (by simp) rfl
   subst e9
   have h9 := hR.f9 rfl
   subst h9
   have hc := hR.hc
   have c9_0 := hc.st.cellAt (hc.old ⟨p,#[.int .i64 E,.int .i64 F,.int .u64 0,.int .u8 (md : Int),.int .i64 0],109⟩ (by simp)).1 2 (.int .u64 0) rfl
   simp only [] at c9_0
   refine wpOp_step rfl fun K hK => ?_
   go_simp
   exact hK _ _ ⟨⟨_,_,_,_,_,_,_,_,_,_,_,_,_,_,_,_,_,_,_,_,_,_,_,_,_,_,_,_,_,_,_,_,_,A11,N11,C11,_,_⟩,rfl,rfl,{ hR with hc := hc,f10 := (fun _ => rfl) }⟩
  ·obtain rfl : b11 = false := by simpa using hl9
   obtain ⟨o9,ho9,hd9⟩ := (mem_ready.1 hi9).2
   cases ho9
   have e6 : b6 = true := hd9 ⟨6,.data⟩ (by simp) rfl
   have e10 : b10 = true := hd9 ⟨10,.data⟩ (by simp) rfl
   subst e6 e10
   have h9 := hR.f6 rfl
   subst h9
   have h9 := hR.f10 rfl
   subst h9
   have hc := hR.hc
   have HR := hide hR
   clear hR
   refine wpOp_step rfl fun K hK => ?_
   go_simp
   go_wp2_with fail
   refine (W_oft hc.st (unhide HV _ ((unhide HT).kept hc.st.fr) )).mono ?_
   rintro en w9 ⟨a9,n9,c9,rfl,hs9,hz9⟩
   have hR := unhide HR
   exact hK _ _ ⟨⟨_,_,_,_,_,_,_,_,_,_,_,_,_,_,_,_,_,_,_,_,_,_,_,_,_,_,_,_,_,_,_,_,_,_,_,_,_,_⟩,rfl,rfl,{ hR with hc := (hc.call hs9 hz9 (fun y hy => List.mem_cons_of_mem _ hy)),f11 := (fun _ => ⟨rfl,List.mem_cons_self ..⟩),f12 := (fun h => Bool.noConfusion (hR.g12_11 h)),f13 := (fun h => Bool.noConfusion (hR.g13_11 h)),f14 := (fun h => Bool.noConfusion (hR.g14_11 h)),f16 := (fun h => Bool.noConfusion (hR.g16_11 h)),g12_11 := (fun _ => rfl),g13_11 := (fun _ => rfl),g14_11 := (fun _ => rfl),g16_11 := (fun _ => rfl) }⟩
  ·obtain rfl : b12 = false := by simpa using hl9
   obtain ⟨o9,ho9,hd9⟩ := (mem_ready.1 hi9).2
   cases ho9
   have e11 : b11 = true := hd9 ⟨11,.data⟩ (by simp) rfl
   subst e11
   have q11 := hR.f11 rfl
   obtain ⟨h9,q11m⟩ := q11
   subst h9
   have hc := hR.hc
   refine wpOp_step rfl fun K hK => ?_
   go_simp
   exact hK _ _ ⟨⟨_,_,_,_,_,_,_,_,_,_,_,_,_,_,_,_,_,_,_,_,_,_,_,_,_,_,_,_,_,_,_,_,_,A11,N11,C11,_,_⟩,rfl,rfl,{ hR with hc := hc,f12 := (fun _ => rfl),g12_11 := (fun _ => rfl) }⟩
  ·obtain rfl : b13 = false := by simpa using hl9
   obtain ⟨o9,ho9,hd9⟩ := (mem_ready.1 hi9).2
   cases ho9
   have e11 : b11 = true := hd9 ⟨11,.data⟩ (by simp) rfl
   subst e11
   have q11 := hR.f11 rfl
   obtain ⟨h9,q11m⟩ := q11
   subst h9
   have hc := hR.hc
   refine wpOp_step rfl fun K hK => ?_
   go_simp
   exact hK _ _ ⟨⟨_,_,_,_,_,_,_,_,_,_,_,_,_,_,_,_,_,_,_,_,_,_,_,_,_,_,_,_,_,_,_,_,_,A11,N11,C11,_,_⟩,rfl,rfl,{ hR with hc := hc,f13 := (fun _ => rfl),g13_11 := (fun _ => rfl) }⟩
  ·obtain rfl : b14 = false := by simpa using hl9
   obtain ⟨o9,ho9,hd9⟩ := (mem_ready.1 hi9).2
   cases ho9
   have e2 : b2 = true := hd9 ⟨2,.data⟩ (by simp) rfl
   have e12 : b12 = true := hd9 ⟨12,.data⟩ (by simp) rfl
   have e13 : b13 = true := hd9 ⟨13,.data⟩ (by simp) rfl
   subst e2 e12 e13
   have h9 := hR.f2 rfl
   subst h9
   obtain rfl : b11 = true := hR.g12_11 rfl
   have q11 := hR.f11 rfl
   obtain ⟨h9,q11m⟩ := q11
   subst h9
   have h9 := hR.f12 rfl
   subst h9
   have h9 := hR.f13 rfl
   subst h9
   have hc := hR.hc
   have HR := hide hR
   clear hR
   refine wpOp_step rfl fun K hK => ?_
   go_simp
   go_wp2_with fail
   refine (runDyadic_0 p 4 _ _ _ _ _ _ ((unhide HRN).kept hc.st.fr)).mono ?_
   rintro en w9 ⟨rfl,hb9⟩
   have hR := unhide HR
   exact hK _ _ ⟨⟨_,_,_,_,_,_,_,_,_,_,_,_,_,_,_,_,_,_,_,_,_,_,_,_,_,_,_,_,_,_,_,_,_,A11,N11,C11,_,_⟩,rfl,rfl,{ hR with hc := (hc.call (hc.st.kept hb9) hb9.size (fun y hy => hy)),f14 := (fun _ => rfl),f16 := (fun h => Bool.noConfusion (hR.g16_14 h)),g14_11 := (fun _ => rfl),g16_14 := (fun _ => rfl) }⟩
  ·obtain rfl : b15 = false := by simpa using hl9
   have hc := hR.hc
   refine wpOp_step rfl fun K hK => ?_
   go_simp
   exact hK _ _ ⟨⟨_,_,_,_,_,_,_,_,_,_,_,_,_,_,_,_,_,_,_,_,_,_,_,_,_,_,_,_,_,_,_,_,_,A11,N11,C11,_,_⟩,rfl,rfl,{ hR with hc := (hc.alloc #[.bool false,.slice none 0 0,.int .i64 0] 33),f15 := (fun _ => AlN.self rfl hc.sz rfl),f16 := (fun h => Bool.noConfusion (hR.g16_15 h)),g16_15 := (fun _ => rfl) }⟩
  ·obtain rfl : b16 = false := by simpa using hl9
   obtain ⟨o9,ho9,hd9⟩ := (mem_ready.1 hi9).2
   cases ho9
   have e14 : b14 = true := hd9 ⟨14,.data⟩ (by simp) rfl
   have e15 : b15 = true := hd9 ⟨15,.data⟩ (by simp) rfl
   subst e14 e15
   obtain rfl : b11 = true := hR.g14_11 rfl
   have q11 := hR.f11 rfl
   obtain ⟨h9,q11m⟩ := q11
   subst h9
   have h9 := hR.f14 rfl
   subst h9
   have hc := hR.hc
   obtain ⟨g9,cs9,h9,hg9,hz9,hm9⟩ := hR.f15 rfl
   subst h9
   obtain ⟨y9_0,y9_1,y9_2,rfl⟩ : ∃ y9_0 y9_1 y9_2,cs9 = #[y9_0,y9_1,y9_2] := by
    match cs9,hz9 with
    | ⟨[y9_0,y9_1,y9_2]⟩,_ => exact ⟨y9_0,y9_1,y9_2,rfl⟩
   clear hz9
   have fz9_0 := hc.st.frozen hm9 0
   have cz9_0 := hc.st.cellAt hm9 0 y9_0 rfl
   simp only [] at fz9_0 cz9_0
   have fz9_1 := hc.st.frozen hm9 1
   have cz9_1 := hc.st.cellAt hm9 1 y9_1 rfl
   simp only [] at fz9_1 cz9_1
   have fz9_2 := hc.st.frozen hm9 2
   have cz9_2 := hc.st.cellAt hm9 2 y9_2 rfl
   simp only [] at fz9_2 cz9_2
   have hn9 : ∀ x,x ∈ ([⟨w.heap.size + 1,#[.bool false,.slice none 0 0,.int .i64 0],33⟩,⟨w.heap.size,#[.bool false,.slice none 0 0,.int .i64 0],33⟩,⟨p,#[.int .i64 E,.int .i64 F,.int .u64 0,.int .u8 (md : Int),.int .i64 0],109⟩] : List En) → x.b ≠ g9 := fun x hx => by have := (hc.old x hx).2; omega
   refine wpOp_step rfl fun K hK => ?_
   go_simp
   exact hK _ _ ⟨⟨_,_,_,_,_,_,_,_,_,_,_,_,_,_,_,_,_,_,_,_,_,_,_,_,_,_,_,_,_,_,_,_,_,A11,N11,C11,_,_⟩,rfl,rfl,{ hR with hc := (((hc.store hm9 (by have := hc.w0s; omega) hn9 0 (.bool s) (by simp)).store (List.mem_cons_self ..) (by have := hc.w0s; omega) hn9 1 (.slice A11 N11 C11) (by simp)).store (List.mem_cons_self ..) (by have := hc.w0s; omega) hn9 2 (.int .i64 xq) (by simp)),f15 := (fun _ => ⟨g9,_,rfl,hg9,by simp,List.mem_cons_self ..⟩),f16 := (fun _ => ⟨g9,rfl,hg9,List.mem_cons_self ..⟩),g16_15 := (fun _ => rfl),g16_14 := (fun _ => rfl),g16_11 := (fun _ => rfl) }⟩
 ·rintro l act Wq1 ⟨⟨b0,b1,b2,b3,b4,b5,b6,b7,b8,b9,b10,b11,b12,b13,b14,b15,b16,v0,v1,v2,v3,v4,v5,v6,v7,v8,v9,v10,v11,v12,v13,v14,v15,x1_A11,x1_N11,x1_C11,bs9,os9⟩,rfl,rfl,hR⟩ hr9
  obtain ⟨hc,f0,f1,f2,f3,f4,f5,f6,f7,f8,f9,f10,f11,f12,f13,f14,f15,f16,g12_11,g13_11,g14_11,g16_15,g16_14,g16_11⟩ := hR
  have eall := all_done hr9 (by kernel_rfl) rfl
  obtain rfl : b0 = true := eall 0 (by decide)
  obtain rfl : b1 = true := eall 1 (by decide)
  obtain rfl : b2 = true := eall 2 (by decide)
  obtain rfl : b3 = true := eall 3 (by decide)
  obtain rfl : b4 = true := eall 4 (by decide)
  obtain rfl : b5 = true := eall 5 (by decide)
  obtain rfl : b6 = true := eall 6 (by decide)
  obtain rfl : b7 = true := eall 7 (by decide)
  obtain rfl : b8 = true := eall 8 (by decide)
  obtain rfl : b9 = true := eall 9 (by decide)
  obtain rfl : b10 = true := eall 10 (by decide)
  obtain rfl : b11 = true := eall 11 (by decide)
  obtain rfl : b12 = true := eall 12 (by decide)
  obtain rfl : b13 = true := eall 13 (by decide)
  obtain rfl : b14 = true := eall 14 (by decide)
  obtain rfl : b15 = true := eall 15 (by decide)
  obtain rfl : b16 = true := eall 16 (by decide)
  clear hr9 eall
  have h9 := f0 rfl
  subst h9
  have h9 := f1 rfl
  subst h9
  have h9 := f2 rfl
  subst h9
  have h9 := f3 rfl
  subst h9
  have h9 := f4 rfl
  subst h9
  have h9 := f5 rfl
  subst h9
  have h9 := f6 rfl
  subst h9
  have h9 := f7 rfl
  subst h9
  have h9 := f8 rfl
  subst h9
  have h9 := f9 rfl
  subst h9
  have h9 := f10 rfl
  subst h9
  obtain ⟨h9,q11m⟩ := f11 rfl
  subst h9
  have h9 := f12 rfl
  subst h9
  have h9 := f13 rfl
  subst h9
  have h9 := f14 rfl
  subst h9
  obtain ⟨x1_g15,h9,hg15,hm15⟩ := f16 rfl
  subst h9
  have hbs9 : ∀ x,x ∈ ([⟨x1_g15,#[.bool s,.slice x1_A11 x1_N11 x1_C11,.int .i64 xq],33⟩,⟨w.heap.size + 1,#[.bool false,.slice none 0 0,.int .i64 0],33⟩,⟨w.heap.size,#[.bool false,.slice none 0 0,.int .i64 0],33⟩,⟨p,#[.int .i64 E,.int .i64 F,.int .u64 0,.int .u8 (md : Int),.int .i64 0],109⟩] : List En) → x ∈ bs9 := by
   intro x hx
   rcases List.mem_cons.1 hx with rfl | hx
   ·exact hm15
   rcases List.mem_cons.1 hx with rfl | hx
   ·exact (hc.old _ (by simp)).1
   rcases List.mem_cons.1 hx with rfl | hx
   ·exact (hc.old _ (by simp)).1
   rcases List.mem_cons.1 hx with rfl | hx
   ·exact (hc.old _ (by simp)).1
   exact absurd hx List.not_mem_nil
  have hos9 : ∀ x,x ∈ ([(x1_A11,x1_N11,x1_C11,m)] : Os) → x ∈ os9 := by
   intro x hx
   rcases List.mem_cons.1 hx with rfl | hx
   ·exact q11m
   exact absurd hx List.not_mem_nil
  have hS := hc.st.sub hbs9 (fun x hx => hx) hos9
  have hsz9 := hc.sz
  rw [hS9z,hsW9] at hsz9
  have hlx1_g15 := hg15
  rw [hS9z,hsW9] at hlx1_g15
  have hux1_g15 := block_lt (hc.st.bx _ hm15).1
  simp only [] at hux1_g15
  clear hbs9 hos9 hc f0 f1 f2 f3 f4 f5 f6 f7 f8 f9 f10 f11 f12 f13 f14 f15 f16 g12_11 g13_11 g14_11 g16_15 g16_14 g16_11
  clear q11m hm15 hg15
  have hz1 := hsz9
  clear hsz9 hS9z hS9 hC9 hsW9
  go_wp2_with fail
  refine wp_region_any (by kernel_rfl) ?_
  change wpAny _ _ _ _ _ _ _ (World.drew _)
  have hS9 := hS.drew
  have hsW9 : (World.drew Wq1).heap.size = Wq1.heap.size := by first | rfl | simp
  generalize World.drew Wq1 = Wd at hS9 hsW9 ⊢
  obtain ⟨S9,hS9z⟩ : ∃ x,x = Wd.heap.size := ⟨_,rfl⟩
  have hC9 := Rc.start (bs := [⟨x1_g15,#[.bool s,.slice x1_A11 x1_N11 x1_C11,.int .i64 xq],33⟩,⟨p,#[.int .i64 E,.int .i64 F,.int .u64 0,.int .u8 (md : Int),.int .i64 0],109⟩]) hS9 (by simp)
  rw [← hS9z] at hC9
  have hP9_0 := hS9.bx ⟨w.heap.size,#[.bool false,.slice none 0 0,.int .i64 0],33⟩ (by simp)
  have hP9_0 := block_lt hP9_0.1
  rw [← hS9z] at hP9_0
  simp only [] at hP9_0
  have hP9_1 := hS9.bx ⟨w.heap.size + 1,#[.bool false,.slice none 0 0,.int .i64 0],33⟩ (by simp)
  have hP9_1 := block_lt hP9_1.1
  rw [← hS9z] at hP9_1
  simp only [] at hP9_1
  refine wpAny_inv (fun l act w' => ∃ σ,Nen02I w E F md p s m xq x1_A11 x1_N11 x1_C11 x1_g15 S9 l act w' σ) ?_ ?_ _ _ _ _ ?_ ?_
  ·intro l act w' i9 hI9 hi9 hl9
   have hin9 : i9 < 4 := by
    by_cases h : i9 < 4
    ·exact h
    ·obtain ⟨⟨⟩,rfl,_⟩ := hI9
     rw [Array.getElem?_eq_none (by simp; omega)] at hl9; cases hl9
   have hcase : i9 = 0 ∨ i9 = 1 ∨ i9 = 2 ∨ i9 = 3 := by omega
   clear hin9
   obtain ⟨⟨b0,b1,b2,b3,v0,v1,bs9,os9⟩,rfl,rfl,hR⟩ := hI9
   rcases hcase with rfl | rfl | rfl | rfl
   ·obtain rfl : b0 = false := by simpa using hl9
    have hc := hR.hc
    have c9_0 := hc.st.cellAt (hc.old ⟨x1_g15,#[.bool s,.slice x1_A11 x1_N11 x1_C11,.int .i64 xq],33⟩ (by simp)).1 0 (.bool s) rfl
    have c9_1 := hc.st.cellAt (hc.old ⟨x1_g15,#[.bool s,.slice x1_A11 x1_N11 x1_C11,.int .i64 xq],33⟩ (by simp)).1 1 (.slice x1_A11 x1_N11 x1_C11) rfl
    have c9_2 := hc.st.cellAt (hc.old ⟨x1_g15,#[.bool s,.slice x1_A11 x1_N11 x1_C11,.int .i64 xq],33⟩ (by simp)).1 2 (.int .i64 xq) rfl
    simp only [] at c9_0 c9_1 c9_2
    refine wpOp_step rfl fun K hK => ?_
    go_simp
    exact hK _ _ ⟨⟨_,_,_,_,_,_,_,_⟩,rfl,rfl,{ hR with hc := hc,f0 := (fun _ => rfl),o0_1 := (fun h => Bool.noConfusion (hR.g2_0 h)),g2_0 := (fun _ => rfl) }⟩
   ·obtain rfl : b1 = false := by simpa using hl9
    have hc := hR.hc
    have c9_0 := hc.st.cellAt (hc.old ⟨x1_g15,#[.bool s,.slice x1_A11 x1_N11 x1_C11,.int .i64 xq],33⟩ (by simp)).1 0 (.bool s) rfl
    have c9_1 := hc.st.cellAt (hc.old ⟨x1_g15,#[.bool s,.slice x1_A11 x1_N11 x1_C11,.int .i64 xq],33⟩ (by simp)).1 1 (.slice x1_A11 x1_N11 x1_C11) rfl
    have c9_2 := hc.st.cellAt (hc.old ⟨x1_g15,#[.bool s,.slice x1_A11 x1_N11 x1_C11,.int .i64 xq],33⟩ (by simp)).1 2 (.int .i64 xq) rfl
    simp only [] at c9_0 c9_1 c9_2
    refine wpOp_step rfl fun K hK => ?_
    go_simp
    exact hK _ _ ⟨⟨_,_,_,_,_,_,_,_⟩,rfl,rfl,{ hR with hc := hc,f1 := (fun _ => rfl),o1_1 := (fun h => Bool.noConfusion (hR.g3_1 h)),g3_1 := (fun _ => rfl) }⟩
   ·obtain rfl : b2 = false := by simpa using hl9
    obtain ⟨o9,ho9,hd9⟩ := (mem_ready.1 hi9).2
    cases ho9
    have e0 : b0 = true := hd9 ⟨0,.data⟩ (by simp) rfl
    subst e0
    have h9 := hR.f0 rfl
    subst h9
    have hc := hR.hc
    have hm9 := hR.o0_0 rfl
    have fz9_0 := hc.st.frozen hm9 0
    have cz9_0 := hc.st.cellAt hm9 0 (.bool false) rfl
    simp only [] at fz9_0 cz9_0
    have fz9_1 := hc.st.frozen hm9 1
    have cz9_1 := hc.st.cellAt hm9 1 (.slice none 0 0) rfl
    simp only [] at fz9_1 cz9_1
    have fz9_2 := hc.st.frozen hm9 2
    have cz9_2 := hc.st.cellAt hm9 2 (.int .i64 0) rfl
    simp only [] at fz9_2 cz9_2
    have hn9 : ∀ x,x ∈ ([⟨x1_g15,#[.bool s,.slice x1_A11 x1_N11 x1_C11,.int .i64 xq],33⟩,⟨p,#[.int .i64 E,.int .i64 F,.int .u64 0,.int .u8 (md : Int),.int .i64 0],109⟩] : List En) → x.b ≠ w.heap.size := by intro x hx; rcases List.mem_cons.1 hx with rfl | hx; (simp only []; omega); rcases List.mem_cons.1 hx with rfl | hx; (simp only []; omega);  exact absurd hx List.not_mem_nil
    have hw9 : w.heap.size ≤ w.heap.size := by omega
    refine wpOp_step rfl fun K hK => ?_
    go_simp
    exact hK _ _ ⟨⟨_,_,_,_,_,_,_,_⟩,rfl,rfl,{ hR with hc := (((hc.store hm9 hw9 hn9 0 (.bool s) (by simp)).store (List.mem_cons_self ..) hw9 hn9 1 (.slice x1_A11 x1_N11 x1_C11) (by simp)).store (List.mem_cons_self ..) hw9 hn9 2 (.int .i64 xq) (by simp)),o0_0 := (fun h => Bool.noConfusion h),o0_1 := (fun _ => List.mem_cons_self ..),o1_0 := (fun h0 => (List.mem_cons_of_mem _ (List.mem_filter.2 ⟨(List.mem_cons_of_mem _ (List.mem_filter.2 ⟨(List.mem_cons_of_mem _ (List.mem_filter.2 ⟨(hR.o1_0 h0),by simp only [ne_eq,decide_not,Bool.not_eq_eq_eq_not,Bool.not_true,decide_eq_false_iff_not]; omega⟩)),by simp only [ne_eq,decide_not,Bool.not_eq_eq_eq_not,Bool.not_true,decide_eq_false_iff_not]; omega⟩)),by simp only [ne_eq,decide_not,Bool.not_eq_eq_eq_not,Bool.not_true,decide_eq_false_iff_not]; omega⟩))),o1_1 := (fun h0 => (List.mem_cons_of_mem _ (List.mem_filter.2 ⟨(List.mem_cons_of_mem _ (List.mem_filter.2 ⟨(List.mem_cons_of_mem _ (List.mem_filter.2 ⟨(hR.o1_1 h0),by simp only [ne_eq,decide_not,Bool.not_eq_eq_eq_not,Bool.not_true,decide_eq_false_iff_not]; omega⟩)),by simp only [ne_eq,decide_not,Bool.not_eq_eq_eq_not,Bool.not_true,decide_eq_false_iff_not]; omega⟩)),by simp only [ne_eq,decide_not,Bool.not_eq_eq_eq_not,Bool.not_true,decide_eq_false_iff_not]; omega⟩))),g2_0 := (fun _ => rfl),g3_2 := (fun _ => rfl) }⟩
   ·obtain rfl : b3 = false := by simpa using hl9
    obtain ⟨o9,ho9,hd9⟩ := (mem_ready.1 hi9).2
    cases ho9
    have e1 : b1 = true := hd9 ⟨1,.data⟩ (by simp) rfl
    have e2 : b2 = true := hd9 ⟨2,.chain⟩ (by simp) rfl
    subst e1 e2
    have h9 := hR.f1 rfl
    subst h9
    have hc := hR.hc
    have hm9 := hR.o1_0 rfl
    have fz9_0 := hc.st.frozen hm9 0
    have cz9_0 := hc.st.cellAt hm9 0 (.bool false) rfl
    simp only [] at fz9_0 cz9_0
    have fz9_1 := hc.st.frozen hm9 1
    have cz9_1 := hc.st.cellAt hm9 1 (.slice none 0 0) rfl
    simp only [] at fz9_1 cz9_1
    have fz9_2 := hc.st.frozen hm9 2
    have cz9_2 := hc.st.cellAt hm9 2 (.int .i64 0) rfl
    simp only [] at fz9_2 cz9_2
    have hn9 : ∀ x,x ∈ ([⟨x1_g15,#[.bool s,.slice x1_A11 x1_N11 x1_C11,.int .i64 xq],33⟩,⟨p,#[.int .i64 E,.int .i64 F,.int .u64 0,.int .u8 (md : Int),.int .i64 0],109⟩] : List En) → x.b ≠ w.heap.size + 1 := by intro x hx; rcases List.mem_cons.1 hx with rfl | hx; (simp only []; omega); rcases List.mem_cons.1 hx with rfl | hx; (simp only []; omega);  exact absurd hx List.not_mem_nil
    have hw9 : w.heap.size ≤ w.heap.size + 1 := by omega
    refine wpOp_step rfl fun K hK => ?_
    go_simp
    exact hK _ _ ⟨⟨_,_,_,_,_,_,_,_⟩,rfl,rfl,{ hR with hc := (((hc.store hm9 hw9 hn9 0 (.bool s) (by simp)).store (List.mem_cons_self ..) hw9 hn9 1 (.slice x1_A11 x1_N11 x1_C11) (by simp)).store (List.mem_cons_self ..) hw9 hn9 2 (.int .i64 xq) (by simp)),o0_0 := (fun h0 => (List.mem_cons_of_mem _ (List.mem_filter.2 ⟨(List.mem_cons_of_mem _ (List.mem_filter.2 ⟨(List.mem_cons_of_mem _ (List.mem_filter.2 ⟨(hR.o0_0 h0),by simp only [ne_eq,decide_not,Bool.not_eq_eq_eq_not,Bool.not_true,decide_eq_false_iff_not]; omega⟩)),by simp only [ne_eq,decide_not,Bool.not_eq_eq_eq_not,Bool.not_true,decide_eq_false_iff_not]; omega⟩)),by simp only [ne_eq,decide_not,Bool.not_eq_eq_eq_not,Bool.not_true,decide_eq_false_iff_not]; omega⟩))),o0_1 := (fun h0 => (List.mem_cons_of_mem _ (List.mem_filter.2 ⟨(List.mem_cons_of_mem _ (List.mem_filter.2 ⟨(List.mem_cons_of_mem _ (List.mem_filter.2 ⟨(hR.o0_1 h0),by simp only [ne_eq,decide_not,Bool.not_eq_eq_eq_not,Bool.not_true,decide_eq_false_iff_not]; omega⟩)),by simp only [ne_eq,decide_not,Bool.not_eq_eq_eq_not,Bool.not_true,decide_eq_false_iff_not]; omega⟩)),by simp only [ne_eq,decide_not,Bool.not_eq_eq_eq_not,Bool.not_true,decide_eq_false_iff_not]; omega⟩))),o1_0 := (fun h => Bool.noConfusion h),o1_1 := (fun _ => List.mem_cons_self ..),g3_1 := (fun _ => rfl),g3_2 := (fun _ => rfl) }⟩
  ·rintro l act Wq2 ⟨⟨b0,b1,b2,b3,v0,v1,bs9,os9⟩,rfl,rfl,hR⟩ hr9
   obtain ⟨hc,f0,f1,o0_0,o0_1,o1_0,o1_1,g2_0,g3_1,g3_2⟩ := hR
   have eall := all_done hr9 (by kernel_rfl) rfl
   obtain rfl : b0 = true := eall 0 (by decide)
   obtain rfl : b1 = true := eall 1 (by decide)
   obtain rfl : b2 = true := eall 2 (by decide)
   obtain rfl : b3 = true := eall 3 (by decide)
   clear hr9 eall
   have h9 := f0 rfl
   subst h9
   have h9 := f1 rfl
   subst h9
   have hbs9 : ∀ x,x ∈ ([⟨w.heap.size + 1,#[.bool s,.slice x1_A11 x1_N11 x1_C11,.int .i64 xq],33⟩,⟨w.heap.size,#[.bool s,.slice x1_A11 x1_N11 x1_C11,.int .i64 xq],33⟩,⟨x1_g15,#[.bool s,.slice x1_A11 x1_N11 x1_C11,.int .i64 xq],33⟩,⟨p,#[.int .i64 E,.int .i64 F,.int .u64 0,.int .u8 (md : Int),.int .i64 0],109⟩] : List En) → x ∈ bs9 := by
    intro x hx
    rcases List.mem_cons.1 hx with rfl | hx
    ·exact (o1_1 rfl)
    rcases List.mem_cons.1 hx with rfl | hx
    ·exact (o0_1 rfl)
    rcases List.mem_cons.1 hx with rfl | hx
    ·exact (hc.old _ (by simp)).1
    rcases List.mem_cons.1 hx with rfl | hx
    ·exact (hc.old _ (by simp)).1
    exact absurd hx List.not_mem_nil
   have hos9 : ∀ x,x ∈ ([(x1_A11,x1_N11,x1_C11,m)] : Os) → x ∈ os9 := by
    intro x hx
    rcases List.mem_cons.1 hx with rfl | hx
    ·exact hc.oso _ (by simp)
    exact absurd hx List.not_mem_nil
   have hS := hc.st.sub hbs9 (fun x hx => hx) hos9
   have hsz9 := hc.sz
   rw [hS9z,hsW9] at hsz9
   clear hbs9 hos9 hc f0 f1 o0_0 o0_1 o1_0 o1_1 g2_0 g3_1 g3_2
   have hz2 := hsz9
   clear hsz9 hS9z hS9 hC9 hsW9
   obtain ⟨⟨k0_0,k0_1,k0_2,k0_3,k0_4,-⟩,-⟩ := hS.cz ⟨p,#[.int .i64 E,.int .i64 F,.int .u64 0,.int .u8 (md : Int),.int .i64 0],109⟩ (by simp)
   simp only [] at k0_0 k0_1 k0_2 k0_3 k0_4
   go_wp2_with fail
   clear k0_0 k0_1 k0_2 k0_3 k0_4
   refine wp_region_any (by kernel_rfl) ?_
   change wpAny _ _ _ _ _ _ _ (World.drew _)
   have hS9 := hS.drew
   have hsW9 : (World.drew Wq2).heap.size = Wq2.heap.size := by first | rfl | simp
   generalize World.drew Wq2 = Wd at hS9 hsW9 ⊢
   obtain ⟨S9,hS9z⟩ : ∃ x,x = Wd.heap.size := ⟨_,rfl⟩
   have hC9 := Rc.start (bs := [⟨w.heap.size + 1,#[.bool s,.slice x1_A11 x1_N11 x1_C11,.int .i64 xq],33⟩,⟨w.heap.size,#[.bool s,.slice x1_A11 x1_N11 x1_C11,.int .i64 xq],33⟩,⟨x1_g15,#[.bool s,.slice x1_A11 x1_N11 x1_C11,.int .i64 xq],33⟩,⟨p,#[.int .i64 E,.int .i64 F,.int .u64 0,.int .u8 (md : Int),.int .i64 0],109⟩]) hS9 (by simp)
   rw [← hS9z] at hC9
   refine wpAny_inv (fun l act w' => ∃ σ,Nen03I w E F S md p s m xq x1_A11 x1_N11 x1_C11 x1_g15 S9 l act w' σ) ?_ ?_ _ _ _ _ ?_ ?_
   ·intro l act w' i9 hI9 hi9 hl9
    have hin9 : i9 < 10 := by
     by_cases h : i9 < 10
     ·exact h
     ·obtain ⟨⟨⟩,rfl,_⟩ := hI9
      rw [Array.getElem?_eq_none (by simp; omega)] at hl9; cases hl9
    have hcase : i9 = 0 ∨ i9 = 1 ∨ i9 = 2 ∨ i9 = 3 ∨ i9 = 4 ∨ i9 = 5 ∨ i9 = 6 ∨ i9 = 7 ∨ i9 = 8 ∨ i9 = 9 := by omega
    clear hin9
    obtain ⟨⟨b0,b1,b2,b3,b4,b5,b6,b7,b8,b9,v0,v1,v2,v3,v4,v5,v6,v7,v8,v9,bs9,os9⟩,rfl,rfl,hR⟩ := hI9
    rcases hcase with rfl | rfl | rfl | rfl | rfl | rfl | rfl | rfl | rfl | rfl
    ·obtain rfl : b0 = false := by simpa using hl9
     have hc := hR.hc
     refine wpOp_step rfl fun K hK => ?_
     go_simp
     exact hK _ _ ⟨⟨_,_,_,_,_,_,_,_,_,_,_,_,_,_,_,_,_,_,_,_,_,_⟩,rfl,rfl,{ hR with hc := hc,f0 := (fun _ => rfl) }⟩
    ·obtain rfl : b1 = false := by simpa using hl9
     obtain ⟨o9,ho9,hd9⟩ := (mem_ready.1 hi9).2
     cases ho9
     have e0 : b0 = true := hd9 ⟨0,.data⟩ (by simp) rfl
     subst e0
     have h9 := hR.f0 rfl
     subst h9
     have hc := hR.hc
     refine wpOp_step rfl fun K hK => ?_
     go_simp
     exact hK _ _ ⟨⟨_,_,_,_,_,_,_,_,_,_,_,_,_,_,_,_,_,_,_,_,_,_⟩,rfl,rfl,{ hR with hc := hc,f1 := (fun _ => rfl) }⟩
    ·obtain rfl : b2 = false := by simpa using hl9
     obtain ⟨o9,ho9,hd9⟩ := (mem_ready.1 hi9).2
     cases ho9
     have e1 : b1 = true := hd9 ⟨1,.data⟩ (by simp) rfl
     subst e1
     have h9 := hR.f1 rfl
     subst h9
     have hc := hR.hc
     refine wpOp_step rfl fun K hK => ?_
     go_simp
     exact hK _ _ ⟨⟨_,_,_,_,_,_,_,_,_,_,_,_,_,_,_,_,_,_,_,_,_,_⟩,rfl,rfl,{ hR with hc := hc,f2 := (fun _ => rfl) }⟩
    ·obtain rfl : b3 = false := by simpa using hl9
     obtain ⟨o9,ho9,hd9⟩ := (mem_ready.1 hi9).2
     cases ho9
     have e2 : b2 = true := hd9 ⟨2,.data⟩ (by simp) rfl
     subst e2
     have h9 := hR.f2 rfl
     subst h9
     have hc := hR.hc
     have c9_0 := hc.st.cellAt (hc.old ⟨p,#[.int .i64 E,.int .i64 F,.int .u64 0,.int .u8 (md : Int),.int .i64 0],109⟩ (by simp)).1 2 (.int .u64 0) rfl
     simp only [] at c9_0
     refine wpOp_step rfl fun K hK => ?_
     go_simp
     exact hK _ _ ⟨⟨_,_,_,_,_,_,_,_,_,_,_,_,_,_,_,_,_,_,_,_,_,_⟩,rfl,rfl,{ hR with hc := hc,f3 := (fun _ => rfl) }⟩
    ·obtain rfl : b4 = false := by simpa using hl9
     have hc := hR.hc
     refine wpOp_step rfl fun K hK => ?_
     go_simp
     exact hK _ _ ⟨⟨_,_,_,_,_,_,_,_,_,_,_,_,_,_,_,_,_,_,_,_,_,_⟩,rfl,rfl,{ hR with hc := hc,f4 := (fun _ => rfl) }⟩
    ·obtain rfl : b5 = false := by simpa using hl9
     obtain ⟨o9,ho9,hd9⟩ := (mem_ready.1 hi9).2
     cases ho9
     have e4 : b4 = true := hd9 ⟨4,.data⟩ (by simp) rfl
     subst e4
     have h9 := hR.f4 rfl
     subst h9
     have hc := hR.hc
     refine wpOp_step rfl fun K hK => ?_
     go_simp
     exact hK _ _ ⟨⟨_,_,_,_,_,_,_,_,_,_,_,_,_,_,_,_,_,_,_,_,_,_⟩,rfl,rfl,{ hR with hc := hc,f5 := (fun _ => rfl) }⟩
    ·obtain rfl : b6 = false := by simpa using hl9
     obtain ⟨o9,ho9,hd9⟩ := (mem_ready.1 hi9).2
     cases ho9
     have e5 : b5 = true := hd9 ⟨5,.data⟩ (by simp) rfl
     subst e5
     have h9 := hR.f5 rfl
     subst h9
     have hc := hR.hc
     refine wpOp_step rfl fun K hK => ?_
     go_simp
     exact hK _ _ ⟨⟨_,_,_,_,_,_,_,_,_,_,_,_,_,_,_,_,_,_,_,_,_,_⟩,rfl,rfl,{ hR with hc := hc,f6 := (fun _ => rfl) }⟩
    ·obtain rfl : b7 = false := by simpa using hl9
     obtain ⟨o9,ho9,hd9⟩ := (mem_ready.1 hi9).2
     cases ho9
     have e6 : b6 = true := hd9 ⟨6,.data⟩ (by simp) rfl
     subst e6
     have h9 := hR.f6 rfl
     subst h9
     have hc := hR.hc
     have c9_0 := hc.st.cellAt (hc.old ⟨p,#[.int .i64 E,.int .i64 F,.int .u64 0,.int .u8 (md : Int),.int .i64 0],109⟩ (by simp)).1 0 (.int .i64 E) rfl
     have c9_1 := hc.st.cellAt (hc.old ⟨p,#[.int .i64 E,.int .i64 F,.int .u64 0,.int .u8 (md : Int),.int .i64 0],109⟩ (by simp)).1 1 (.int .i64 F) rfl
     simp only [] at c9_0 c9_1
     refine wpOp_step rfl fun K hK => ?_
     go_simp
     exact hK _ _ ⟨⟨_,_,_,_,_,_,_,_,_,_,_,_,_,_,_,_,_,_,_,_,_,_⟩,rfl,rfl,{ hR with hc := hc,f7 := (fun _ => rfl) }⟩
    ·obtain rfl : b8 = false := by simpa using hl9
     obtain ⟨o9,ho9,hd9⟩ := (mem_ready.1 hi9).2
     cases ho9
     have e7 : b7 = true := hd9 ⟨7,.data⟩ (by simp) rfl
     subst e7
     have h9 := hR.f7 rfl
     subst h9
     have hc := hR.hc
     have HR := hide hR
     clear hR
     refine wpOp_step rfl fun K hK => ?_
     go_simp
     go_wp2_with fail
     refine (HSg _).mono ?_
     rintro en w9 ⟨rfl,hb9⟩
     have hR := unhide HR
     exact hK _ _ ⟨⟨_,_,_,_,_,_,_,_,_,_,_,_,_,_,_,_,_,_,_,_,_,_⟩,rfl,rfl,{ hR with hc := (hc.call (hc.st.kept hb9) hb9.size (fun y hy => hy)),f8 := (fun _ => rfl) }⟩
    ·obtain rfl : b9 = false := by simpa using hl9
     obtain ⟨o9,ho9,hd9⟩ := (mem_ready.1 hi9).2
     cases ho9
     have e3 : b3 = true := hd9 ⟨3,.data⟩ (by simp) rfl
     have e8 : b8 = true := hd9 ⟨8,.data⟩ (by simp) rfl
     subst e3 e8
     have h9 := hR.f3 rfl
     subst h9
     have h9 := hR.f8 rfl
     subst h9
     have hc := hR.hc
     refine wpOp_step rfl fun K hK => ?_
     go_simp
     exact hK _ _ ⟨⟨_,_,_,_,_,_,_,_,_,_,_,_,_,_,_,_,_,_,_,_,_,_⟩,rfl,rfl,{ hR with hc := hc,f9 := (fun _ => by first | rfl | simp [hbS]) }⟩
   ·rintro l act Wq3 ⟨⟨b0,b1,b2,b3,b4,b5,b6,b7,b8,b9,v0,v1,v2,v3,v4,v5,v6,v7,v8,v9,bs9,os9⟩,rfl,rfl,hR⟩ hr9
    obtain ⟨hc,f0,f1,f2,f3,f4,f5,f6,f7,f8,f9⟩ := hR
    have eall := all_done hr9 (by kernel_rfl) rfl
    obtain rfl : b0 = true := eall 0 (by decide)
    obtain rfl : b1 = true := eall 1 (by decide)
    obtain rfl : b2 = true := eall 2 (by decide)
    obtain rfl : b3 = true := eall 3 (by decide)
    obtain rfl : b4 = true := eall 4 (by decide)
    obtain rfl : b5 = true := eall 5 (by decide)
    obtain rfl : b6 = true := eall 6 (by decide)
    obtain rfl : b7 = true := eall 7 (by decide)
    obtain rfl : b8 = true := eall 8 (by decide)
    obtain rfl : b9 = true := eall 9 (by decide)
    clear hr9 eall
    have h9 := f0 rfl
    subst h9
    have h9 := f1 rfl
    subst h9
    have h9 := f2 rfl
    subst h9
    have h9 := f3 rfl
    subst h9
    have h9 := f4 rfl
    subst h9
    have h9 := f5 rfl
    subst h9
    have h9 := f6 rfl
    subst h9
    have h9 := f7 rfl
    subst h9
    have h9 := f8 rfl
    subst h9
    have h9 := f9 rfl
    subst h9
    have hbs9 : ∀ x,x ∈ ([⟨w.heap.size + 1,#[.bool s,.slice x1_A11 x1_N11 x1_C11,.int .i64 xq],33⟩,⟨w.heap.size,#[.bool s,.slice x1_A11 x1_N11 x1_C11,.int .i64 xq],33⟩,⟨x1_g15,#[.bool s,.slice x1_A11 x1_N11 x1_C11,.int .i64 xq],33⟩,⟨p,#[.int .i64 E,.int .i64 F,.int .u64 0,.int .u8 (md : Int),.int .i64 0],109⟩] : List En) → x ∈ bs9 := by
     intro x hx
     rcases List.mem_cons.1 hx with rfl | hx
     ·exact (hc.old _ (by simp)).1
     rcases List.mem_cons.1 hx with rfl | hx
     ·exact (hc.old _ (by simp)).1
     rcases List.mem_cons.1 hx with rfl | hx
     ·exact (hc.old _ (by simp)).1
     rcases List.mem_cons.1 hx with rfl | hx
     ·exact (hc.old _ (by simp)).1
     exact absurd hx List.not_mem_nil
    have hos9 : ∀ x,x ∈ ([(x1_A11,x1_N11,x1_C11,m)] : Os) → x ∈ os9 := by
     intro x hx
     rcases List.mem_cons.1 hx with rfl | hx
     ·exact hc.oso _ (by simp)
     exact absurd hx List.not_mem_nil
    have hS := hc.st.sub hbs9 (fun x hx => hx) hos9
    have hsz9 := hc.sz
    rw [hS9z,hsW9] at hsz9
    clear hbs9 hos9 hc f0 f1 f2 f3 f4 f5 f6 f7 f8 f9
    have hz3 := hsz9
    clear hsz9 hS9z hS9 hC9 hsW9
    go_wp2_with fail
    refine wp_region_any (by kernel_rfl) ?_
    change wpAny _ _ _ _ _ _ _ (World.drew _)
    have hS9 := hS.drew
    have hsW9 : (World.drew Wq3).heap.size = Wq3.heap.size := by first | rfl | simp
    generalize World.drew Wq3 = Wd at hS9 hsW9 ⊢
    obtain ⟨S9,hS9z⟩ : ∃ x,x = Wd.heap.size := ⟨_,rfl⟩
    have hC9 := Rc.start (bs := [⟨w.heap.size,#[.bool s,.slice x1_A11 x1_N11 x1_C11,.int .i64 xq],33⟩,⟨x1_g15,#[.bool s,.slice x1_A11 x1_N11 x1_C11,.int .i64 xq],33⟩,⟨p,#[.int .i64 E,.int .i64 F,.int .u64 0,.int .u8 (md : Int),.int .i64 0],109⟩]) hS9 (by simp)
    rw [← hS9z] at hC9
    have hP9_0 := hS9.bx ⟨w.heap.size + 1,#[.bool s,.slice x1_A11 x1_N11 x1_C11,.int .i64 xq],33⟩ (by simp)
    have hP9_0 := block_lt hP9_0.1
    rw [← hS9z] at hP9_0
    simp only [] at hP9_0
    refine wpAny_inv (fun l act w' => ∃ σ,Nen04I w E F S md p s m xq up su mu xu rh vh yh x1_A11 x1_N11 x1_C11 x1_g15 S9 l act w' σ) ?_ ?_ _ _ _ _ ?_ ?_
    ·intro l act w' i9 hI9 hi9 hl9
     have hin9 : i9 < 17 := by
      by_cases h : i9 < 17
      ·exact h
      ·obtain ⟨⟨⟩,rfl,_⟩ := hI9
       rw [Array.getElem?_eq_none (by simp; omega)] at hl9; cases hl9
     have hcase : i9 = 0 ∨ i9 = 1 ∨ i9 = 2 ∨ i9 = 3 ∨ i9 = 4 ∨ i9 = 5 ∨ i9 = 6 ∨ i9 = 7 ∨ i9 = 8 ∨ i9 = 9 ∨ i9 = 10 ∨ i9 = 11 ∨ i9 = 12 ∨ i9 = 13 ∨ i9 = 14 ∨ i9 = 15 ∨ i9 = 16 := by omega
     clear hin9
     obtain ⟨⟨b0,b1,b2,b3,b4,b5,b6,b7,b8,b9,b10,b11,b12,b13,b14,b15,b16,v0,v1,v2,v3,v4,v5,v6,v7,v8,v9,v10,v11,v12,v13,v14,v15,A14,N14,C14,A15,N15,C15,bs9,os9⟩,rfl,rfl,hR⟩ := hI9
     rcases hcase with rfl | rfl | rfl | rfl | rfl | rfl | rfl | rfl | rfl | rfl | rfl | rfl | rfl | rfl | rfl | rfl | rfl
     ·obtain rfl : b0 = false := by simpa using hl9
      have hc := hR.hc
      refine wpOp_step rfl fun K hK => ?_
      go_simp
      exact hK _ _ ⟨⟨_,_,_,_,_,_,_,_,_,_,_,_,_,_,_,_,_,_,_,_,_,_,_,_,_,_,_,_,_,_,_,_,_,A14,N14,C14,A15,N15,C15,_,_⟩,rfl,rfl,{ hR with hc := hc,f0 := (fun _ => rfl) }⟩
     ·obtain rfl : b1 = false := by simpa using hl9
      have hc := hR.hc
      have c9_0 := hc.st.cellAt (hc.old ⟨x1_g15,#[.bool s,.slice x1_A11 x1_N11 x1_C11,.int .i64 xq],33⟩ (by simp)).1 0 (.bool s) rfl
      have c9_1 := hc.st.cellAt (hc.old ⟨x1_g15,#[.bool s,.slice x1_A11 x1_N11 x1_C11,.int .i64 xq],33⟩ (by simp)).1 1 (.slice x1_A11 x1_N11 x1_C11) rfl
      have c9_2 := hc.st.cellAt (hc.old ⟨x1_g15,#[.bool s,.slice x1_A11 x1_N11 x1_C11,.int .i64 xq],33⟩ (by simp)).1 2 (.int .i64 xq) rfl
      simp only [] at c9_0 c9_1 c9_2
      refine wpOp_step rfl fun K hK => ?_
      go_simp
      exact hK _ _ ⟨⟨_,_,_,_,_,_,_,_,_,_,_,_,_,_,_,_,_,_,_,_,_,_,_,_,_,_,_,_,_,_,_,_,_,A14,N14,C14,A15,N15,C15,_,_⟩,rfl,rfl,{ hR with hc := hc,f1 := (fun _ => rfl) }⟩
     ·obtain rfl : b2 = false := by simpa using hl9
      have hc := hR.hc
      refine wpOp_step rfl fun K hK => ?_
      go_simp
      exact hK _ _ ⟨⟨_,_,_,_,_,_,_,_,_,_,_,_,_,_,_,_,_,_,_,_,_,_,_,_,_,_,_,_,_,_,_,_,_,A14,N14,C14,A15,N15,C15,_,_⟩,rfl,rfl,{ hR with hc := hc,f2 := (fun _ => rfl) }⟩
     ·obtain rfl : b3 = false := by simpa using hl9
      have hc := hR.hc
      refine wpOp_step rfl fun K hK => ?_
      go_simp
      exact hK _ _ ⟨⟨_,_,_,_,_,_,_,_,_,_,_,_,_,_,_,_,_,_,_,_,_,_,_,_,_,_,_,_,_,_,_,_,_,A14,N14,C14,A15,N15,C15,_,_⟩,rfl,rfl,{ hR with hc := hc,f3 := (fun _ => rfl) }⟩
     ·obtain rfl : b4 = false := by simpa using hl9
      obtain ⟨o9,ho9,hd9⟩ := (mem_ready.1 hi9).2
      cases ho9
      have e3 : b3 = true := hd9 ⟨3,.data⟩ (by simp) rfl
      subst e3
      have h9 := hR.f3 rfl
      subst h9
      have hc := hR.hc
      refine wpOp_step rfl fun K hK => ?_
      go_simp
      exact hK _ _ ⟨⟨_,_,_,_,_,_,_,_,_,_,_,_,_,_,_,_,_,_,_,_,_,_,_,_,_,_,_,_,_,_,_,_,_,A14,N14,C14,A15,N15,C15,_,_⟩,rfl,rfl,{ hR with hc := hc,f4 := (fun _ => rfl) }⟩
     ·obtain rfl : b5 = false := by simpa using hl9
      obtain ⟨o9,ho9,hd9⟩ := (mem_ready.1 hi9).2
      cases ho9
      have e4 : b4 = true := hd9 ⟨4,.data⟩ (by simp) rfl
      subst e4
      have h9 := hR.f4 rfl
      subst h9
      have hc := hR.hc
      refine wpOp_step rfl fun K hK => ?_
      go_simp
      exact hK _ _ ⟨⟨_,_,_,_,_,_,_,_,_,_,_,_,_,_,_,_,_,_,_,_,_,_,_,_,_,_,_,_,_,_,_,_,_,A14,N14,C14,A15,N15,C15,_,_⟩,rfl,rfl,{ hR with hc := hc,f5 := (fun _ => rfl) }⟩
     ·obtain rfl : b6 = false := by simpa using hl9
      obtain ⟨o9,ho9,hd9⟩ := (mem_ready.1 hi9).2
      cases ho9
      have e5 : b5 = true := hd9 ⟨5,.data⟩ (by simp) rfl
      subst e5
      have h9 := hR.f5 rfl
      subst h9
      have hc := hR.hc
      have c9_0 := hc.st.cellAt (hc.old ⟨p,#[.int .i64 E,.int .i64 F,.int .u64 0,.int .u8 (md : Int),.int .i64 0],109⟩ (by simp)).1 0 (.int .i64 E) rfl
      have c9_1 := hc.st.cellAt (hc.old ⟨p,#[.int .i64 E,.int .i64 F,.int .u64 0,.int .u8 (md : Int),.int .i64 0],109⟩ (by simp)).1 1 (.int .i64 F) rfl
      simp only [] at c9_0 c9_1
      refine wpOp_step rfl fun K hK => ?_
      go_simp
      exact hK _ _ ⟨⟨_,_,_,_,_,_,_,_,_,_,_,_,_,_,_,_,_,_,_,_,_,_,_,_,_,_,_,_,_,_,_,_,_,A14,N14,C14,A15,N15,C15,_,_⟩,rfl,rfl,{ hR with hc := hc,f6 := (fun _ => rfl) }⟩
     ·obtain rfl : b7 = false := by simpa using hl9
      have hc := hR.hc
      refine wpOp_step rfl fun K hK => ?_
      go_simp
      exact hK _ _ ⟨⟨_,_,_,_,_,_,_,_,_,_,_,_,_,_,_,_,_,_,_,_,_,_,_,_,_,_,_,_,_,_,_,_,_,A14,N14,C14,A15,N15,C15,_,_⟩,rfl,rfl,{ hR with hc := hc,f7 := (fun _ => rfl) }⟩
     ·obtain rfl : b8 = false := by simpa using hl9
      obtain ⟨o9,ho9,hd9⟩ := (mem_ready.1 hi9).2
      cases ho9
      have e7 : b7 = true := hd9 ⟨7,.data⟩ (by simp) rfl
      subst e7
      have h9 := hR.f7 rfl
      subst h9
      have hc := hR.hc
      refine wpOp_step rfl fun K hK => ?_
      go_simp
      exact hK _ _ ⟨⟨_,_,_,_,_,_,_,_,_,_,_,_,_,_,_,_,_,_,_,_,_,_,_,_,_,_,_,_,_,_,_,_,_,A14,N14,C14,A15,N15,C15,_,_⟩,rfl,rfl,{ hR with hc := hc,f8 := (fun _ => rfl) }⟩
     ·obtain rfl : b9 = false := by simpa using hl9
      obtain ⟨o9,ho9,hd9⟩ := (mem_ready.1 hi9).2
      cases ho9
      have e8 : b8 = true := hd9 ⟨8,.data⟩ (by simp) rfl
      subst e8
      have h9 := hR.f8 rfl
      subst h9
      have hc := hR.hc
      refine wpOp_step rfl fun K hK => ?_
      go_simp
      exact hK _ _ ⟨⟨_,_,_,_,_,_,_,_,_,_,_,_,_,_,_,_,_,_,_,_,_,_,_,_,_,_,_,_,_,_,_,_,_,A14,N14,C14,A15,N15,C15,_,_⟩,rfl,rfl,{ hR with hc := hc,f9 := (fun _ => rfl) }⟩
     ·obtain rfl : b10 = false := by simpa using hl9
      obtain ⟨o9,ho9,hd9⟩ := (mem_ready.1 hi9).2
      cases ho9
      have e9 : b9 = true := hd9 ⟨9,.data⟩ (by simp) rfl
      subst e9
      have h9 := hR.f9 rfl
      subst h9
      have hc := hR.hc
      have c9_0 := hc.st.cellAt (hc.old ⟨p,#[.int .i64 E,.int .i64 F,.int .u64 0,.int .u8 (md : Int),.int .i64 0],109⟩ (by simp)).1 2 (.int .u64 0) rfl
      simp only [] at c9_0
      refine wpOp_step rfl fun K hK => ?_
      go_simp
      exact hK _ _ ⟨⟨_,_,_,_,_,_,_,_,_,_,_,_,_,_,_,_,_,_,_,_,_,_,_,_,_,_,_,_,_,_,_,_,_,A14,N14,C14,A15,N15,C15,_,_⟩,rfl,rfl,{ hR with hc := hc,f10 := (fun _ => rfl) }⟩
     ·obtain rfl : b11 = false := by simpa using hl9
      obtain ⟨o9,ho9,hd9⟩ := (mem_ready.1 hi9).2
      cases ho9
      have e6 : b6 = true := hd9 ⟨6,.data⟩ (by simp) rfl
      have e10 : b10 = true := hd9 ⟨10,.data⟩ (by simp) rfl
      subst e6 e10
      have h9 := hR.f6 rfl
      subst h9
      have h9 := hR.f10 rfl
      subst h9
      have hc := hR.hc
      have HR := hide hR
      clear hR
      refine wpOp_step rfl fun K hK => ?_
      go_simp
      go_wp2_with fail
      refine (HUp _).mono ?_
      rintro en w9 ⟨rfl,hb9⟩
      have hR := unhide HR
      exact hK _ _ ⟨⟨_,_,_,_,_,_,_,_,_,_,_,_,_,_,_,_,_,_,_,_,_,_,_,_,_,_,_,_,_,_,_,_,_,A14,N14,C14,A15,N15,C15,_,_⟩,rfl,rfl,{ hR with hc := (hc.call (hc.st.kept hb9) hb9.size (fun y hy => hy)),f11 := (fun _ => rfl) }⟩
     ·obtain rfl : b12 = false := by simpa using hl9
      obtain ⟨o9,ho9,hd9⟩ := (mem_ready.1 hi9).2
      cases ho9
      have e11 : b11 = true := hd9 ⟨11,.data⟩ (by simp) rfl
      subst e11
      have h9 := hR.f11 rfl
      subst h9
      have hc := hR.hc
      refine wpOp_step rfl fun K hK => ?_
      go_simp
      exact hK _ _ ⟨⟨_,_,_,_,_,_,_,_,_,_,_,_,_,_,_,_,_,_,_,_,_,_,_,_,_,_,_,_,_,_,_,_,_,A14,N14,C14,A15,N15,C15,_,_⟩,rfl,rfl,{ hR with hc := hc,f12 := (fun _ => rfl) }⟩
     ·obtain rfl : b13 = false := by simpa using hl9
      obtain ⟨o9,ho9,hd9⟩ := (mem_ready.1 hi9).2
      cases ho9
      have e11 : b11 = true := hd9 ⟨11,.data⟩ (by simp) rfl
      subst e11
      have h9 := hR.f11 rfl
      subst h9
      have hc := hR.hc
      refine wpOp_step rfl fun K hK => ?_
      go_simp
      exact hK _ _ ⟨⟨_,_,_,_,_,_,_,_,_,_,_,_,_,_,_,_,_,_,_,_,_,_,_,_,_,_,_,_,_,_,_,_,_,A14,N14,C14,A15,N15,C15,_,_⟩,rfl,rfl,{ hR with hc := hc,f13 := (fun _ => rfl) }⟩
     ·obtain rfl : b14 = false := by simpa using hl9
      obtain ⟨o9,ho9,hd9⟩ := (mem_ready.1 hi9).2
      cases ho9
      have e2 : b2 = true := hd9 ⟨2,.data⟩ (by simp) rfl
      have e12 : b12 = true := hd9 ⟨12,.data⟩ (by simp) rfl
      have e13 : b13 = true := hd9 ⟨13,.data⟩ (by simp) rfl
      subst e2 e12 e13
      have h9 := hR.f2 rfl
      subst h9
      have h9 := hR.f12 rfl
      subst h9
      have h9 := hR.f13 rfl
      subst h9
      have hc := hR.hc
      have HR := hide hR
      clear hR
      refine wpOp_step rfl fun K hK => ?_
      go_simp
      go_wp2_with fail
      refine (W_oft hc.st (unhide HWu _ (hc.st.bx ⟨p,#[.int .i64 E,.int .i64 F,.int .u64 0,.int .u8 (md : Int),.int .i64 0],109⟩ (hc.old ⟨p,#[.int .i64 E,.int .i64 F,.int .u64 0,.int .u8 (md : Int),.int .i64 0],109⟩ (by simp)).1).1 ((unhide HT).kept hc.st.fr) )).mono ?_
      rintro en w9 ⟨a9,n9,c9,rfl,hs9,hz9⟩
      have hR := unhide HR
      exact hK _ _ ⟨⟨_,_,_,_,_,_,_,_,_,_,_,_,_,_,_,_,_,_,_,_,_,_,_,_,_,_,_,_,_,_,_,_,_,_,_,_,A15,N15,C15,_,_⟩,rfl,rfl,{ hR with hc := (hc.call hs9 hz9 (fun y hy => List.mem_cons_of_mem _ hy)),f14 := (fun _ => ⟨rfl,List.mem_cons_self ..⟩),f15 := (fun h => Bool.noConfusion (hR.g15_14 h)),o0_1 := (fun h => Bool.noConfusion (hR.g16_14 h)),g15_14 := (fun _ => rfl),g16_14 := (fun _ => rfl) }⟩
     ·obtain rfl : b15 = false := by simpa using hl9
      obtain ⟨o9,ho9,hd9⟩ := (mem_ready.1 hi9).2
      cases ho9
      have e0 : b0 = true := hd9 ⟨0,.data⟩ (by simp) rfl
      have e1 : b1 = true := hd9 ⟨1,.data⟩ (by simp) rfl
      have e14 : b14 = true := hd9 ⟨14,.data⟩ (by simp) rfl
      subst e0 e1 e14
      have h9 := hR.f0 rfl
      subst h9
      have h9 := hR.f1 rfl
      subst h9
      have q14 := hR.f14 rfl
      obtain ⟨h9,q14m⟩ := q14
      subst h9
      have hc := hR.hc
      have HR := hide hR
      clear hR
      refine wpOp_step rfl fun K hK => ?_
      go_simp
      go_wp2_with fail
      refine (W_ofd hc.st (border_is E F 0 md p _ _ _ _ _ _ _ _ _ _ _ _ rh vh yh w.heap.size _ (hc.st.ow (x1_A11,x1_N11,x1_C11,m) (hc.oso _ (by simp))) (hc.st.ow _ q14m) (by have := hc.st.size; exact this) ((unhide HT).kept hc.st.fr) (hc.st.bx ⟨p,#[.int .i64 E,.int .i64 F,.int .u64 0,.int .u8 (md : Int),.int .i64 0],109⟩ (hc.old ⟨p,#[.int .i64 E,.int .i64 F,.int .u64 0,.int .u8 (md : Int),.int .i64 0],109⟩ (by simp)).1).1 (unhide HK) (unhide HBh))).mono ?_
      rintro en w9 ⟨a9,n9,c9,rfl,hs9,hz9⟩
      have hR := unhide HR
      exact hK _ _ ⟨⟨_,_,_,_,_,_,_,_,_,_,_,_,_,_,_,_,_,_,_,_,_,_,_,_,_,_,_,_,_,_,_,_,_,A14,N14,C14,_,_,_,_,_⟩,rfl,rfl,{ hR with hc := (hc.call hs9 hz9 (fun y hy => List.mem_cons_of_mem _ hy)),f14 := (fun h => ⟨(hR.f14 h).1,List.mem_cons_of_mem _ (hR.f14 h).2⟩),f15 := (fun _ => ⟨rfl,List.mem_cons_self ..⟩),o0_1 := (fun h => Bool.noConfusion (hR.g16_15 h)),g15_14 := (fun _ => rfl),g16_15 := (fun _ => rfl) }⟩
     ·obtain rfl : b16 = false := by simpa using hl9
      obtain ⟨o9,ho9,hd9⟩ := (mem_ready.1 hi9).2
      cases ho9
      have e15 : b15 = true := hd9 ⟨15,.data⟩ (by simp) rfl
      subst e15
      have q15 := hR.f15 rfl
      obtain ⟨h9,q15m⟩ := q15
      subst h9
      have hc := hR.hc
      have hm9 := hR.o0_0 rfl
      have fz9_0 := hc.st.frozen hm9 0
      have cz9_0 := hc.st.cellAt hm9 0 (.bool s) rfl
      simp only [] at fz9_0 cz9_0
      have fz9_1 := hc.st.frozen hm9 1
      have cz9_1 := hc.st.cellAt hm9 1 (.slice x1_A11 x1_N11 x1_C11) rfl
      simp only [] at fz9_1 cz9_1
      have fz9_2 := hc.st.frozen hm9 2
      have cz9_2 := hc.st.cellAt hm9 2 (.int .i64 xq) rfl
      simp only [] at fz9_2 cz9_2
      have hn9 : ∀ x,x ∈ ([⟨w.heap.size,#[.bool s,.slice x1_A11 x1_N11 x1_C11,.int .i64 xq],33⟩,⟨x1_g15,#[.bool s,.slice x1_A11 x1_N11 x1_C11,.int .i64 xq],33⟩,⟨p,#[.int .i64 E,.int .i64 F,.int .u64 0,.int .u8 (md : Int),.int .i64 0],109⟩] : List En) → x.b ≠ w.heap.size + 1 := by intro x hx; rcases List.mem_cons.1 hx with rfl | hx; (simp only []; omega); rcases List.mem_cons.1 hx with rfl | hx; (simp only []; omega); rcases List.mem_cons.1 hx with rfl | hx; (simp only []; omega);  exact absurd hx List.not_mem_nil
      have hw9 : w.heap.size ≤ w.heap.size + 1 := by omega
      refine wpOp_step rfl fun K hK => ?_
      go_simp
      exact hK _ _ ⟨⟨_,_,_,_,_,_,_,_,_,_,_,_,_,_,_,_,_,_,_,_,_,_,_,_,_,_,_,_,_,_,_,_,_,A14,N14,C14,A15,N15,C15,_,_⟩,rfl,rfl,{ hR with hc := (((hc.store hm9 hw9 hn9 0 (.bool rh) (by simp)).store (List.mem_cons_self ..) hw9 hn9 1 (.slice A15 N15 C15) (by simp)).store (List.mem_cons_self ..) hw9 hn9 2 (.int .i64 yh) (by simp)),o0_0 := (fun h => Bool.noConfusion h),o0_1 := (fun _ => List.mem_cons_self ..),g16_15 := (fun _ => rfl),g16_14 := (fun _ => hR.g15_14 rfl) }⟩
    ·rintro l act Wq4 ⟨⟨b0,b1,b2,b3,b4,b5,b6,b7,b8,b9,b10,b11,b12,b13,b14,b15,b16,v0,v1,v2,v3,v4,v5,v6,v7,v8,v9,v10,v11,v12,v13,v14,v15,x4_A14,x4_N14,x4_C14,x4_A15,x4_N15,x4_C15,bs9,os9⟩,rfl,rfl,hR⟩ hr9
     obtain ⟨hc,f0,f1,f2,f3,f4,f5,f6,f7,f8,f9,f10,f11,f12,f13,f14,f15,o0_0,o0_1,g15_14,g16_15,g16_14⟩ := hR
     have eall := all_done hr9 (by kernel_rfl) rfl
     obtain rfl : b0 = true := eall 0 (by decide)
     obtain rfl : b1 = true := eall 1 (by decide)
     obtain rfl : b2 = true := eall 2 (by decide)
     obtain rfl : b3 = true := eall 3 (by decide)
     obtain rfl : b4 = true := eall 4 (by decide)
     obtain rfl : b5 = true := eall 5 (by decide)
     obtain rfl : b6 = true := eall 6 (by decide)
     obtain rfl : b7 = true := eall 7 (by decide)
     obtain rfl : b8 = true := eall 8 (by decide)
     obtain rfl : b9 = true := eall 9 (by decide)
     obtain rfl : b10 = true := eall 10 (by decide)
     obtain rfl : b11 = true := eall 11 (by decide)
     obtain rfl : b12 = true := eall 12 (by decide)
     obtain rfl : b13 = true := eall 13 (by decide)
     obtain rfl : b14 = true := eall 14 (by decide)
     obtain rfl : b15 = true := eall 15 (by decide)
     obtain rfl : b16 = true := eall 16 (by decide)
     clear hr9 eall
     have h9 := f0 rfl
     subst h9
     have h9 := f1 rfl
     subst h9
     have h9 := f2 rfl
     subst h9
     have h9 := f3 rfl
     subst h9
     have h9 := f4 rfl
     subst h9
     have h9 := f5 rfl
     subst h9
     have h9 := f6 rfl
     subst h9
     have h9 := f7 rfl
     subst h9
     have h9 := f8 rfl
     subst h9
     have h9 := f9 rfl
     subst h9
     have h9 := f10 rfl
     subst h9
     have h9 := f11 rfl
     subst h9
     have h9 := f12 rfl
     subst h9
     have h9 := f13 rfl
     subst h9
     obtain ⟨h9,q14m⟩ := f14 rfl
     subst h9
     obtain ⟨h9,q15m⟩ := f15 rfl
     subst h9
     have hbs9 : ∀ x,x ∈ ([⟨w.heap.size + 1,#[.bool rh,.slice x4_A15 x4_N15 x4_C15,.int .i64 yh],33⟩,⟨w.heap.size,#[.bool s,.slice x1_A11 x1_N11 x1_C11,.int .i64 xq],33⟩,⟨x1_g15,#[.bool s,.slice x1_A11 x1_N11 x1_C11,.int .i64 xq],33⟩,⟨p,#[.int .i64 E,.int .i64 F,.int .u64 0,.int .u8 (md : Int),.int .i64 0],109⟩] : List En) → x ∈ bs9 := by
      intro x hx
      rcases List.mem_cons.1 hx with rfl | hx
      ·exact (o0_1 rfl)
      rcases List.mem_cons.1 hx with rfl | hx
      ·exact (hc.old _ (by simp)).1
      rcases List.mem_cons.1 hx with rfl | hx
      ·exact (hc.old _ (by simp)).1
      rcases List.mem_cons.1 hx with rfl | hx
      ·exact (hc.old _ (by simp)).1
      exact absurd hx List.not_mem_nil
     have hos9 : ∀ x,x ∈ ([(x4_A14,x4_N14,x4_C14,mu),(x4_A15,x4_N15,x4_C15,vh),(x1_A11,x1_N11,x1_C11,m)] : Os) → x ∈ os9 := by
      intro x hx
      rcases List.mem_cons.1 hx with rfl | hx
      ·exact q14m
      rcases List.mem_cons.1 hx with rfl | hx
      ·exact q15m
      rcases List.mem_cons.1 hx with rfl | hx
      ·exact hc.oso _ (by simp)
      exact absurd hx List.not_mem_nil
     have hS := hc.st.sub hbs9 (fun x hx => hx) hos9
     have hsz9 := hc.sz
     rw [hS9z,hsW9] at hsz9
     clear hbs9 hos9 hc f0 f1 f2 f3 f4 f5 f6 f7 f8 f9 f10 f11 f12 f13 f14 f15 o0_0 o0_1 g15_14 g16_15 g16_14
     clear q14m q15m
     have hz4 := hsz9
     clear hsz9 hS9z hS9 hC9 hsW9
     go_wp2_with fail
     replace hS := hS.sub (bs' := [⟨w.heap.size + 1,#[.bool rh,.slice x4_A15 x4_N15 x4_C15,.int .i64 yh],33⟩,⟨w.heap.size,#[.bool s,.slice x1_A11 x1_N11 x1_C11,.int .i64 xq],33⟩]) (ms' := []) (os' := [(x4_A15,x4_N15,x4_C15,vh),(x1_A11,x1_N11,x1_C11,m)]) (by intro x hx; rcases List.mem_cons.1 hx with rfl | hx; (simp); rcases List.mem_cons.1 hx with rfl | hx; (simp); exact absurd hx List.not_mem_nil) (by intro x hx; exact absurd hx List.not_mem_nil) (by intro x hx; rcases List.mem_cons.1 hx with rfl | hx; (simp); rcases List.mem_cons.1 hx with rfl | hx; (simp); exact absurd hx List.not_mem_nil)
     refine wp_region_any (by kernel_rfl) ?_
     change wpAny _ _ _ _ _ _ _ (World.drew _)
     have hS9 := hS.drew
     have hsW9 : (World.drew Wq4).heap.size = Wq4.heap.size := by first | rfl | simp
     generalize World.drew Wq4 = Wd at hS9 hsW9 ⊢
     obtain ⟨S9,hS9z⟩ : ∃ x,x = Wd.heap.size := ⟨_,rfl⟩
     have hC9 := Rc.start (bs := []) hS9 (by simp)
     rw [← hS9z] at hC9
     have hP9_0 := hS9.bx ⟨w.heap.size,#[.bool s,.slice x1_A11 x1_N11 x1_C11,.int .i64 xq],33⟩ (by simp)
     have hP9_0 := block_lt hP9_0.1
     rw [← hS9z] at hP9_0
     simp only [] at hP9_0
     have hP9_1 := hS9.bx ⟨w.heap.size + 1,#[.bool rh,.slice x4_A15 x4_N15 x4_C15,.int .i64 yh],33⟩ (by simp)
     have hP9_1 := block_lt hP9_1.1
     rw [← hS9z] at hP9_1
     simp only [] at hP9_1
     refine wpAny_inv (fun l act w' => ∃ σ,Nen05I w E F S p s m xq up su xu rh vh yh x1_A11 x1_N11 x1_C11 x1_g15 x4_A14 x4_N14 x4_C14 x4_A15 x4_N15 x4_C15 S9 l act w' σ) ?_ ?_ _ _ _ _ ?_ ?_
     ·intro l act w' i9 hI9 hi9 hl9
      have hin9 : i9 < 4 := by
       by_cases h : i9 < 4
       ·exact h
       ·obtain ⟨⟨⟩,rfl,_⟩ := hI9
        rw [Array.getElem?_eq_none (by simp; omega)] at hl9; cases hl9
      have hcase : i9 = 0 ∨ i9 = 1 ∨ i9 = 2 ∨ i9 = 3 := by omega
      clear hin9
      obtain ⟨⟨b0,b1,b2,b3,v0,v1,bs9,os9⟩,rfl,rfl,hR⟩ := hI9
      rcases hcase with rfl | rfl | rfl | rfl
      ·obtain rfl : b0 = false := by simpa using hl9
       have hc := hR.hc
       obtain rfl : b2 = false := by cases h : b2; rfl; exact Bool.noConfusion (hR.g2_0 h)
       have c9_0 := hc.st.cellAt (hR.o0_0 rfl) 0 (.bool s) rfl
       have c9_1 := hc.st.cellAt (hR.o0_0 rfl) 1 (.slice x1_A11 x1_N11 x1_C11) rfl
       have c9_2 := hc.st.cellAt (hR.o0_0 rfl) 2 (.int .i64 xq) rfl
       simp only [] at c9_0 c9_1 c9_2
       refine wpOp_step rfl fun K hK => ?_
       go_simp
       exact hK _ _ ⟨⟨_,_,_,_,_,_,_,_⟩,rfl,rfl,{ hR with hc := hc,f0 := (fun _ => rfl),o0_1 := (fun h => Bool.noConfusion (hR.g2_0 h)),g2_0 := (fun _ => rfl) }⟩
      ·obtain rfl : b1 = false := by simpa using hl9
       have hc := hR.hc
       obtain rfl : b3 = false := by cases h : b3; rfl; exact Bool.noConfusion (hR.g3_1 h)
       have c9_0 := hc.st.cellAt (hR.o1_0 rfl) 0 (.bool rh) rfl
       have c9_1 := hc.st.cellAt (hR.o1_0 rfl) 1 (.slice x4_A15 x4_N15 x4_C15) rfl
       have c9_2 := hc.st.cellAt (hR.o1_0 rfl) 2 (.int .i64 yh) rfl
       simp only [] at c9_0 c9_1 c9_2
       refine wpOp_step rfl fun K hK => ?_
       go_simp
       exact hK _ _ ⟨⟨_,_,_,_,_,_,_,_⟩,rfl,rfl,{ hR with hc := hc,f1 := (fun _ => rfl),o1_1 := (fun h => Bool.noConfusion (hR.g3_1 h)),g3_1 := (fun _ => rfl) }⟩
      ·obtain rfl : b2 = false := by simpa using hl9
       obtain ⟨o9,ho9,hd9⟩ := (mem_ready.1 hi9).2
       cases ho9
       have e0 : b0 = true := hd9 ⟨0,.data⟩ (by simp) rfl
       subst e0
       have h9 := hR.f0 rfl
       subst h9
       have hc := hR.hc
       have hm9 := hR.o0_0 rfl
       have fz9_0 := hc.st.frozen hm9 0
       have cz9_0 := hc.st.cellAt hm9 0 (.bool s) rfl
       simp only [] at fz9_0 cz9_0
       have fz9_1 := hc.st.frozen hm9 1
       have cz9_1 := hc.st.cellAt hm9 1 (.slice x1_A11 x1_N11 x1_C11) rfl
       simp only [] at fz9_1 cz9_1
       have fz9_2 := hc.st.frozen hm9 2
       have cz9_2 := hc.st.cellAt hm9 2 (.int .i64 xq) rfl
       simp only [] at fz9_2 cz9_2
       have hn9 : ∀ x,x ∈ ([] : List En) → x.b ≠ w.heap.size := by intro x hx;  exact absurd hx List.not_mem_nil
       have hw9 : w.heap.size ≤ w.heap.size := by omega
       refine wpOp_step rfl fun K hK => ?_
       go_simp
       exact hK _ _ ⟨⟨_,_,_,_,_,_,_,_⟩,rfl,rfl,{ hR with hc := (((hc.store hm9 hw9 hn9 0 (.bool s) (by simp)).store (List.mem_cons_self ..) hw9 hn9 1 (.slice x1_A11 x1_N11 x1_C11) (by simp)).store (List.mem_cons_self ..) hw9 hn9 2 (.int .i64 xq) (by simp)),o0_0 := (fun h => Bool.noConfusion h),o0_1 := (fun _ => List.mem_cons_self ..),o1_0 := (fun h0 => (List.mem_cons_of_mem _ (List.mem_filter.2 ⟨(List.mem_cons_of_mem _ (List.mem_filter.2 ⟨(List.mem_cons_of_mem _ (List.mem_filter.2 ⟨(hR.o1_0 h0),by simp only [ne_eq,decide_not,Bool.not_eq_eq_eq_not,Bool.not_true,decide_eq_false_iff_not]; omega⟩)),by simp only [ne_eq,decide_not,Bool.not_eq_eq_eq_not,Bool.not_true,decide_eq_false_iff_not]; omega⟩)),by simp only [ne_eq,decide_not,Bool.not_eq_eq_eq_not,Bool.not_true,decide_eq_false_iff_not]; omega⟩))),o1_1 := (fun h0 => (List.mem_cons_of_mem _ (List.mem_filter.2 ⟨(List.mem_cons_of_mem _ (List.mem_filter.2 ⟨(List.mem_cons_of_mem _ (List.mem_filter.2 ⟨(hR.o1_1 h0),by simp only [ne_eq,decide_not,Bool.not_eq_eq_eq_not,Bool.not_true,decide_eq_false_iff_not]; omega⟩)),by simp only [ne_eq,decide_not,Bool.not_eq_eq_eq_not,Bool.not_true,decide_eq_false_iff_not]; omega⟩)),by simp only [ne_eq,decide_not,Bool.not_eq_eq_eq_not,Bool.not_true,decide_eq_false_iff_not]; omega⟩))),g2_0 := (fun _ => rfl),g3_2 := (fun _ => rfl) }⟩
      ·obtain rfl : b3 = false := by simpa using hl9
       obtain ⟨o9,ho9,hd9⟩ := (mem_ready.1 hi9).2
       cases ho9
       have e1 : b1 = true := hd9 ⟨1,.data⟩ (by simp) rfl
       have e2 : b2 = true := hd9 ⟨2,.chain⟩ (by simp) rfl
       subst e1 e2
       have h9 := hR.f1 rfl
       subst h9
       have hc := hR.hc
       have hm9 := hR.o1_0 rfl
       have fz9_0 := hc.st.frozen hm9 0
       have cz9_0 := hc.st.cellAt hm9 0 (.bool rh) rfl
       simp only [] at fz9_0 cz9_0
       have fz9_1 := hc.st.frozen hm9 1
       have cz9_1 := hc.st.cellAt hm9 1 (.slice x4_A15 x4_N15 x4_C15) rfl
       simp only [] at fz9_1 cz9_1
       have fz9_2 := hc.st.frozen hm9 2
       have cz9_2 := hc.st.cellAt hm9 2 (.int .i64 yh) rfl
       simp only [] at fz9_2 cz9_2
       have hn9 : ∀ x,x ∈ ([] : List En) → x.b ≠ w.heap.size + 1 := by intro x hx;  exact absurd hx List.not_mem_nil
       have hw9 : w.heap.size ≤ w.heap.size + 1 := by omega
       refine wpOp_step rfl fun K hK => ?_
       go_simp
       exact hK _ _ ⟨⟨_,_,_,_,_,_,_,_⟩,rfl,rfl,{ hR with hc := (((hc.store hm9 hw9 hn9 0 (.bool rh) (by simp)).store (List.mem_cons_self ..) hw9 hn9 1 (.slice x4_A15 x4_N15 x4_C15) (by simp)).store (List.mem_cons_self ..) hw9 hn9 2 (.int .i64 yh) (by simp)),o0_0 := (fun h0 => (List.mem_cons_of_mem _ (List.mem_filter.2 ⟨(List.mem_cons_of_mem _ (List.mem_filter.2 ⟨(List.mem_cons_of_mem _ (List.mem_filter.2 ⟨(hR.o0_0 h0),by simp only [ne_eq,decide_not,Bool.not_eq_eq_eq_not,Bool.not_true,decide_eq_false_iff_not]; omega⟩)),by simp only [ne_eq,decide_not,Bool.not_eq_eq_eq_not,Bool.not_true,decide_eq_false_iff_not]; omega⟩)),by simp only [ne_eq,decide_not,Bool.not_eq_eq_eq_not,Bool.not_true,decide_eq_false_iff_not]; omega⟩))),o0_1 := (fun h0 => (List.mem_cons_of_mem _ (List.mem_filter.2 ⟨(List.mem_cons_of_mem _ (List.mem_filter.2 ⟨(List.mem_cons_of_mem _ (List.mem_filter.2 ⟨(hR.o0_1 h0),by simp only [ne_eq,decide_not,Bool.not_eq_eq_eq_not,Bool.not_true,decide_eq_false_iff_not]; omega⟩)),by simp only [ne_eq,decide_not,Bool.not_eq_eq_eq_not,Bool.not_true,decide_eq_false_iff_not]; omega⟩)),by simp only [ne_eq,decide_not,Bool.not_eq_eq_eq_not,Bool.not_true,decide_eq_false_iff_not]; omega⟩))),o1_0 := (fun h => Bool.noConfusion h),o1_1 := (fun _ => List.mem_cons_self ..),g3_1 := (fun _ => rfl),g3_2 := (fun _ => rfl) }⟩
     ·rintro l act Wq5 ⟨⟨b0,b1,b2,b3,v0,v1,bs9,os9⟩,rfl,rfl,hR⟩ hr9
      obtain ⟨hc,f0,f1,o0_0,o0_1,o1_0,o1_1,g2_0,g3_1,g3_2⟩ := hR
      have eall := all_done hr9 (by kernel_rfl) rfl
      obtain rfl : b0 = true := eall 0 (by decide)
      obtain rfl : b1 = true := eall 1 (by decide)
      obtain rfl : b2 = true := eall 2 (by decide)
      obtain rfl : b3 = true := eall 3 (by decide)
      clear hr9 eall
      have h9 := f0 rfl
      subst h9
      have h9 := f1 rfl
      subst h9
      have hbs9 : ∀ x,x ∈ ([⟨w.heap.size + 1,#[.bool rh,.slice x4_A15 x4_N15 x4_C15,.int .i64 yh],33⟩,⟨w.heap.size,#[.bool s,.slice x1_A11 x1_N11 x1_C11,.int .i64 xq],33⟩] : List En) → x ∈ bs9 := by
       intro x hx
       rcases List.mem_cons.1 hx with rfl | hx
       ·exact (o1_1 rfl)
       rcases List.mem_cons.1 hx with rfl | hx
       ·exact (o0_1 rfl)
       exact absurd hx List.not_mem_nil
      have hos9 : ∀ x,x ∈ ([(x4_A15,x4_N15,x4_C15,vh),(x1_A11,x1_N11,x1_C11,m)] : Os) → x ∈ os9 := by
       intro x hx
       rcases List.mem_cons.1 hx with rfl | hx
       ·exact hc.oso _ (by simp)
       rcases List.mem_cons.1 hx with rfl | hx
       ·exact hc.oso _ (by simp)
       exact absurd hx List.not_mem_nil
      have hS := hc.st.sub hbs9 (fun x hx => hx) hos9
      have hsz9 := hc.sz
      rw [hS9z,hsW9] at hsz9
      clear hbs9 hos9 hc f0 f1 o0_0 o0_1 o1_0 o1_1 g2_0 g3_1 g3_2
      have hz5 := hsz9
      clear hsz9 hS9z hS9 hC9 hsW9
      obtain ⟨⟨k0_0,k0_1,k0_2,-⟩,-⟩ := hS.cz ⟨w.heap.size + 1,#[.bool rh,.slice x4_A15 x4_N15 x4_C15,.int .i64 yh],33⟩ (by simp)
      obtain ⟨⟨k1_0,k1_1,k1_2,-⟩,-⟩ := hS.cz ⟨w.heap.size,#[.bool s,.slice x1_A11 x1_N11 x1_C11,.int .i64 xq],33⟩ (by simp)
      simp only [] at k0_0 k0_1 k0_2 k1_0 k1_1 k1_2
      go_wp2
      exact bodyPost_ret (v := .tuple #[.agg #[.bool s,.slice x1_A11 x1_N11 x1_C11,.int .i64 xq],.agg #[.bool rh,.slice x4_A15 x4_N15 x4_C15,.int .i64 yh]]) (by simp [results,Tryz.results72,go_sem,k0_0,k0_1,k0_2,k1_0,k1_1,k1_2]) rfl ⟨⟨_,_,_,_,_,_,rfl,hS.ow (x1_A11,x1_N11,x1_C11,m) (by simp),hS.ow (x4_A15,x4_N15,x4_C15,vh) (by simp)⟩,hS.fr⟩
     ·simp
     ·exact ⟨⟨false,false,false,false,undef,undef,_,_⟩,rfl,rfl,⟨hC9,nb,nb,(fun _ => by simp),nb,(fun _ => by simp),nb,nb,nb,nb⟩⟩
    ·simp
    ·exact ⟨⟨false,false,false,false,false,false,false,false,false,false,false,false,false,false,false,false,false,undef,undef,undef,undef,undef,undef,undef,undef,undef,undef,undef,undef,undef,undef,undef,undef,none,0,0,none,0,0,_,_⟩,rfl,rfl,⟨hC9,nb,nb,nb,nb,nb,nb,nb,nb,nb,nb,nb,nb,nb,nb,nb,nb,(fun _ => by simp),nb,nb,nb,nb⟩⟩
   ·simp
   ·exact ⟨⟨false,false,false,false,false,false,false,false,false,false,undef,undef,undef,undef,undef,undef,undef,undef,undef,undef,_,_⟩,rfl,rfl,⟨hC9,nb,nb,nb,nb,nb,nb,nb,nb,nb,nb⟩⟩
  ·simp
  ·exact ⟨⟨false,false,false,false,undef,undef,_,_⟩,rfl,rfl,⟨hC9,nb,nb,(fun _ => by simp),nb,(fun _ => by simp),nb,nb,nb,nb⟩⟩
 ·simp
 ·exact ⟨⟨false,false,false,false,false,false,false,false,false,false,false,false,false,false,false,false,false,undef,undef,undef,undef,undef,undef,undef,undef,undef,undef,undef,undef,undef,undef,undef,undef,none,0,0,_,_⟩,rfl,rfl,⟨hC9,nb,nb,nb,nb,nb,nb,nb,nb,nb,nb,nb,nb,nb,nb,nb,nb,nb,nb,nb,nb,nb,nb,nb⟩⟩
theorem fo5 : Fo 5 10 := ⟨by decide,by decide,by decide,by decide⟩
theorem fm5 : Fm 5 10 32768 31744 := ⟨fo5,by decide,by decide⟩
theorem hb5 : Hid (15 = 2 ^ (5 - 1) - 1) := hide rfl
theorem sg5 : Tel 120 #[.agg #[.int .i64 5,.int .i64 10]] (.int .u64 32768) := fun W => signBit_is 5 10 32768 fo5 (hide (by decide)) W
theorem up5a : Tel 10 #[.agg #[.int .i64 5,.int .i64 10],.int .u64 32769] (.tuple #[.int .u64 32768,.int .i64 0]) := Up_T fm5 (b := 32769) (by decide) (by decide) (by decide)
theorem up5b : Tel 10 #[.agg #[.int .i64 5,.int .i64 10],.int .u64 31744] (.tuple #[.int .u64 0,.int .i64 60]) := Up_E fm5
theorem up5c : Tel 10 #[.agg #[.int .i64 5,.int .i64 10],.int .u64 0] (.tuple #[.int .u64 1,.int .i64 0]) := Up_T fm5 (b := 0) (by decide) (by decide) (by decide)
theorem st5 : Tel 22 #[.agg #[.int .i64 5,.int .i64 10],.int .u64 31744,.int .u64 64512] (.tuple #[.bool true,.int .u64 63488,.int .i64 0]) := Steps_T fm5 (a := 31744) (b := 64512) (by decide) (by decide) (by decide) (by decide)
theorem bt5z : Bt 5 10 0 false 0 0 := ⟨by decide,by decide,by decide⟩
theorem bt5o : Bt 5 10 1 false 0 1 := ⟨by decide,by decide,by decide⟩
theorem bt5g : Bt 5 10 31743 false 30 1023 := ⟨by decide,by decide,by decide⟩
theorem vals5z : Vals 5 10 0 false 0 0 := vals_zero (E := 5) (F := 10) (B := 15) fo5 hb5 bt5z
theorem vals5o : Vals 5 10 1 false 1 (-24) := by
 have h := vals_wo (E := 5) (F := 10) (B := 15) (M := 1) (z := 0) (xe := -24) fo5 hb5 bt5o ⟨⟨0,by decide⟩,Or.inl ⟨rfl,rfl,by decide,by decide⟩,by decide,by decide⟩
 rw [show (1 / 2 ^ 0 : Nat) = 1 from by decide,show ((-24 : Int) + ((0 : Nat) : Int)) = -24 from by decide] at h
 exact h
theorem vals5g : Vals 5 10 31743 false 2047 5 := by
 have h := vals_wo (E := 5) (F := 10) (B := 15) (M := 2047) (z := 0) (xe := 5) fo5 hb5 bt5g ⟨⟨1023,by decide⟩,Or.inr ⟨by decide,by decide,by decide⟩,by decide,by decide⟩
 rw [show (2047 / 2 ^ 0 : Nat) = 2047 from by decide,show ((5 : Int) + ((0 : Nat) : Int)) = 5 from by decide] at h
 exact h
theorem sum5 : SumsM false 0 0 false 1 (-24) 0 false 1 (-24) := fun W A N C A' N' C' g g' _ => by
 obtain rfl := g.zero.2 rfl
 exact Add_left _ A C _ _ _ A' N' C' _ _ W ⟨g,Or.inl ⟨rfl,rfl,rfl⟩⟩ ⟨g',Or.inr ⟨by decide,by decide,by decide⟩⟩
theorem prod5 : ProdsM false 1 (-24) false 1 (-1) 0 false 1 (-25) := by
 rcases mul_oneM (s := false) (m := 1) (x := -24) (s' := false) (m' := 1) (x' := -1) (Or.inr ⟨by decide,by decide,by decide⟩) (Or.inr ⟨by decide,by decide,by decide⟩) with ⟨h,_⟩ | ⟨_,⟨h,_⟩ | ⟨_,h⟩⟩
 ·omega
 ·rcases h with h | h | h
  ·omega
  ·omega
  ·exact absurd h (not_over (n := 1) (by decide) (by decide))
 ·exact h
theorem wor5 (W : World) (p : Nat) (hp : W.heap[p]? = some (.cells #[.int .i64 5,.int .i64 10,.int .u64 0,.int .u8 ((1 : Nat) : Int),.int .i64 0] 109 (0,0))) (hT : Tb W) :
  Calls Tryz.prog 130 #[.pointer (some ⟨p,0,none⟩),.int .u64 1,.int .i64 0] W fun e w' => (∃ A N C,e = .returned (.agg #[.bool false,.slice A N C,.int .i64 (-24)]) ∧ Mine w' W.heap.size A N C 1) ∧ Below W.heap.size W w' := by
 have hc : Tel 37 #[.agg #[.int .i64 5,.int .i64 10],.int .u64 1] (.tuple #[.int .u8 2,.int .i64 0]) := fun W => Class_ok 5 10 1 0 1 false fo5 bt5o 31 (hide (by decide)) W
 exact worth_fin 5 10 0 1 _ p false 1 (-24) 2 W hT hp (by decide) hc (hide vals5o)
theorem rdy5z (W : World) (B : Nat) (A : Option Addr) (N C : Nat) (h : Mine W B A N C 0) :
  Calls Tryz.prog 134 #[.agg #[.int .i64 5,.int .i64 10],.agg #[.bool false,.slice A N C,.int .i64 0],.bool false,.int .u8 ((1 : Nat) : Int)] W fun e w' => e = .returned (.tuple #[.int .u64 0,.int .u8 0,.int .i64 0]) ∧ Below W.heap.size W w' := by
 obtain rfl := h.num.zero.2 rfl
 exact rdyadic_is 5 10 1 fo5 (by decide) false A 0 C 0 0 false 0 0 W B h (hide fun W g => dcheck_dy false A 0 C 0 0 W ⟨g,Or.inl ⟨rfl,rfl,rfl⟩⟩) (hide fun W _ => rounded_nought 5 10 0 1 false fo5 A C W bt5z)
theorem rdy5o (W : World) (B : Nat) (A : Option Addr) (N C : Nat) (h : Mine W B A N C 1) :
  Calls Tryz.prog 134 #[.agg #[.int .i64 5,.int .i64 10],.agg #[.bool false,.slice A N C,.int .i64 (-25)],.bool false,.int .u8 ((1 : Nat) : Int)] W fun e w' => e = .returned (.tuple #[.int .u64 1,.int .u8 5,.int .i64 0]) ∧ Below W.heap.size W w' := by
 obtain ⟨hc1,hc2⟩ := mine_caps h
 have hn : 0 < N := by have := h.num.zero; omega
 refine rdyadic_is 5 10 1 fo5 (by decide) false A N C 1 (-25) false 1 5 W B h (hide fun W g => dcheck_dy false A N C 1 (-25) W ⟨g,Or.inr ⟨by decide,by decide,by decide⟩⟩) (hide fun W g => ?_)
 refine rounded_small 5 10 15 1 false false A N C 1 1 (-25) (-24) 1 1 1 0 0 1 W fo5 hb5 g.num hn ⟨by decide,by decide⟩ (by decide) ⟨by decide,by decide⟩ (by decide) (hide fun W g => ?_) (by decide) ⟨by decide,by decide⟩ (by decide) (by decide) (hide (by decide)) (by decide) (by decide) (by decide) (by decide) bt5o (hide fun W g => ?_)
 ·exact cut_drop false A N C 1 1 1 (-25) W g hc1 hc2 (by decide) (by decide) (by decide) (by decide)
 ·have := small_is false A N C (-25) (-35) (-14) 1 1024 11 true W (hide fun W' hb => cut_whole false A N C 1 10 1 (-25) W' (g.kept hb) (by decide) (by decide) (by decide)) (by decide) ⟨by decide,by decide⟩ (by decide) (by decide)
  exact this
theorem mine_small {w : World} {B : Nat} {a : Option Addr} {n c m : Nat} (h : Mine w B a n c m) (h0 : 0 < m) (h1 : m < 4294967296) : n = 1 ∧ ∃ g,a = some ⟨g,0,none⟩ ∧ w.cell? ⟨g,0,none⟩ = some (.int .u32 (m : Int)) := by
 have hn := h.num.one h0 h1
 obtain ⟨xs,hl,ho,_,_,hv,_⟩ := h
 subst hn
 refine ⟨rfl,?_⟩
 match xs,hl with
 | [x],_ =>
  have hx : x = m := by rw [← hv]; simp [Pl.val]
  subst hx
  rcases ho with ⟨_,h⟩ | ⟨g,cap,cur,he,_,hh,_,_,_,hc⟩
  ·cases h
  ·cases he
   refine ⟨g,rfl,?_⟩
   rw [cell_of_row w g 0 _ _ _ hh]
   exact hc 0 (by simp)
theorem half6_any (w : World) : Calls Tryz.prog 45 #[] w fun e w' => e = .returned (.agg #[.int .i64 5,.int .i64 10]) ∧ Below w.heap.size w w' := by
 go_enter Tryz.func45,Tryz.ntmps45
 go_wp2
 exact bodyPost_ret (v := .agg #[.int .i64 5,.int .i64 10]) (by simp [results,Tryz.results45,go_sem]) rfl ⟨rfl,gr_alloc _ _⟩
theorem reach5 (w : World) (hT : Tb w) (hN : Nb w) : Calls Tryz.prog 26 #[.agg #[.int .i64 5,.int .i64 10],.int .u64 0,.int .u8 1] w fun e w' => (∃ A N C A' N' C' B M D B' M' D',e = .returned (.tuple #[.agg #[.bool false,.slice A N C,.slice A' N' C'],.agg #[.bool false,.slice B M D,.slice B' M' D'],.bool true,.bool false,.int .i64 0]) ∧ Mine w' w.heap.size A N C 0 ∧ Mine w' w.heap.size A' N' C' 1 ∧ Mine w' w.heap.size B M D 1 ∧ Mine w' w.heap.size B' M' D' 33554432) ∧ Below w.heap.size w w' := by
 refine Reach_is w 5 10 0 ((1 : Nat) : Int) false 0 0 false 1 (-25) 0 1 1 33554432 true false hT hN (fits_T fm5 (b := 0) (by decide)) (hide fun W h => name_ok 1 (by decide) W h) (hide fun W p hp hT => ?_) (hide fun W A N C g => ?_) (hide fun W A N C g => ?_) (hide fun W p B A N C hp g => ?_) (hide fun W p B A N C hp g => ?_)
 ·exact ends_0 W 5 10 32768 1 p false 0 0 1 false 1 (-24) false 1 (-25) hT hp (hide (mk1 _ _ (by decide))) (hide vals5z) sg5 (by decide) up5c (hide fun W hp hT => wor5 W p hp hT) (hide (Or.inl ⟨by decide,false,1,-24,sum5,prod5⟩))
 ·have := nratio_ok (s := false) (m := 0) (x := 0) (Or.inl ⟨rfl,rfl,rfl⟩) (i := 0) (j := 0) (by decide) (by decide) (not_over (n := 1) (by decide) (by decide)) (not_over (n := 1) (by decide) (by decide)) W A N C g
  exact this
 ·have := nratio_ok (s := false) (m := 1) (x := -25) (Or.inr ⟨by decide,by decide,by decide⟩) (i := 0) (j := 25) (by decide) (by decide) (not_over (n := 1) (by decide) (by decide)) (not_over (n := 26) (by decide) (by decide)) W A N C g
  exact this
 ·exact has_eq 5 10 0 p _ false A N C 0 0 false 32768 0 0 W B g hp (by decide) sg5 (hide fun W B A N C g => rdy5z W B A N C g) rfl true (by decide)
 ·exact has_ne 5 10 0 p _ false A N C 1 (-25) false 32768 1 5 W B g hp (by decide) sg5 (hide fun W B A N C g => rdy5o W B A N C g) (by decide)
theorem rg5 : Tel 53 #[.agg #[.int .i64 5,.int .i64 10]] (.tuple #[.int .i64 (-24),.int .i64 15,.int .i64 0]) := fun W => by
 have h := Range_ok 5 10 15 fo5 hb5 W
 rw [show (1 - ((15 : Nat) : Int) - ((10 : Nat) : Int)) = -24 from by decide] at h
 exact h
theorem ulp5 (w : World) (hT : Tb w) : Calls Tryz.prog 14 #[.agg #[.int .i64 5,.int .i64 10],.int .u64 31743] w fun e w' => (∃ A N C,e = .returned (.tuple #[.agg #[.bool false,.slice A N C,.int .i64 5],.int .i64 0]) ∧ Mine w' w.heap.size A N C 1) ∧ Below w.heap.size w w' :=
 Ulp_is 5 10 31743 false 2047 5 false 30 1023 (-24) 15 30 5 w hT (hide vals5g) (fun W => Split_ok 5 10 31743 30 1023 false fo5 bt5g W) rg5 (by decide) (by decide) (by decide) (by decide) (hide (mk1 _ _ (by decide)))
theorem awake6_any  (w : World) (hT : Tb w) (hN : Nb w) :
  Calls Tryz.prog 9 #[] w fun e w' => e = .returned (.bool true) ∧ Below w.heap.size w w' := by
 have HT := hide hT
 have HN := hide hN
 clear hT hN
 go_enter Tryz.func9,Tryz.ntmps9
 go_wp2_with fail
 refine (half6_any _).mono ?_
 rintro e w1 ⟨rfl,hb1⟩
 have hS := (Fs.begin w).kept hb1
 go_wp2_with fail
 refine (up5a _).mono ?_
 rintro e w2 ⟨rfl,hb2⟩
 replace hS := hS.kept hb2
 go_wp2_with fail
 refine (half6_any _).mono ?_
 rintro e w3 ⟨rfl,hb3⟩
 replace hS := hS.kept hb3
 go_wp2_with fail
 refine (up5b _).mono ?_
 rintro e w4 ⟨rfl,hb4⟩
 replace hS := hS.kept hb4
 go_wp2_with fail
 refine (half6_any _).mono ?_
 rintro e w5 ⟨rfl,hb5⟩
 replace hS := hS.kept hb5
 go_wp2_with fail
 refine (st5 _).mono ?_
 rintro e w6 ⟨rfl,hb6⟩
 replace hS := hS.kept hb6
 go_wp2_with fail
 refine (half6_any _).mono ?_
 rintro e w7 ⟨rfl,hb7⟩
 replace hS := hS.kept hb7
 go_wp2_with fail
 refine (reach5 _ ((unhide HT).kept hS.fr) ((unhide HN).kept hS.fr)).mono ?_
 rintro e w8 ⟨⟨A1,N1,C1,A2,N2,C2,A3,N3,C3,A4,N4,C4,rfl,g1,g2,g3,g4⟩,hb8⟩
 replace hS := hS.kept hb8
 obtain rfl := g1.num.zero.2 rfl
 obtain rfl := (mine_small g3 (by decide) (by decide)).1
 obtain rfl := (mine_small g4 (by decide) (by decide)).1
 have G4 := hide g4
 clear g1 g2 g3 g4
 replace hS := hS.alloc #[.bool false,.slice A1 0 C1,.slice A2 N2 C2] 48
 replace G4 := hide ((unhide G4).alloc (.cells #[.bool false,.slice A1 0 C1,.slice A2 N2 C2] 48))
 replace hS := hS.alloc #[.bool false,.slice A3 1 C3,.slice A4 1 C4] 48
 replace G4 := hide ((unhide G4).alloc (.cells #[.bool false,.slice A3 1 C3,.slice A4 1 C4] 48))
 simp only [World.size_alloc] at hS
 obtain ⟨⟨ya,yb,yc,-⟩,⟨yd,ye,yf,-⟩,-⟩ := hS.cells
 go_wp2_with fail
 refine (half6_any _).mono ?_
 rintro e w9 ⟨rfl,hb9⟩
 replace hS := hS.kept hb9
 clear ya yb yc yd ye yf
 obtain ⟨⟨yg,yh,yi,-⟩,⟨yj,yk,yl,-⟩,-⟩ := hS.cells
 replace G4 := hide ((unhide G4).kept hb9)
 go_wp2_with fail
 refine (ulp5 _ ((unhide HT).kept hS.fr)).mono ?_
 rintro e w10 ⟨⟨A5,N5,C5,rfl,g5⟩,hb10⟩
 replace hS := hS.kept hb10
 clear yg yh yi yj yk yl
 obtain ⟨⟨ym,yn,yo,-⟩,⟨yp,yq,yr,-⟩,-⟩ := hS.cells
 replace G4 := hide ((unhide G4).kept hb10)
 clear g5
 have hltw10_0 : w8.heap.size + 1 < w10.heap.size := hS.lt 0 rfl
 have hltw10_1 : w8.heap.size < w10.heap.size := hS.lt 1 rfl
 replace hS := hS.alloc #[.bool false,.slice A5 N5 C5,.int .i64 5] 33
 replace G4 := hide ((unhide G4).alloc (.cells #[.bool false,.slice A5 N5 C5,.int .i64 5] 33))
 clear ym yn yo yp yq yr
 obtain ⟨⟨ys,yt,yu,-⟩,⟨yv,yw,yx,-⟩,⟨yy,yz,y0,-⟩,-⟩ := hS.cells
 obtain ⟨-,g,he,hc⟩ := mine_small (unhide G4) (by decide) (by decide)
 cases he
 go_wp2
 go_ret
 exact ⟨rfl,hS.fr⟩
theorem row_A (E F a b : Int) (k1 e1 o1 h1 n1 j1 : Int) (i1 d1 : Bool) (HC1 : Tel 18 #[.agg #[.int .i64 E,.int .i64 F],.int .u64 a,.int .u64 b] (.tuple #[.int .i64 k1,.bool i1,.int .i64 e1])) (RC1 : Tel 19 #[.agg #[.int .i64 E,.int .i64 F],.int .u64 a,.int .u64 b] (.tuple #[.int .i64 k1,.bool i1,.int .i64 e1])) (HO1 : Tel 20 #[.agg #[.int .i64 E,.int .i64 F],.int .u64 a,.int .u64 b] (.tuple #[.int .i64 o1,.int .i64 h1])) (RO1 : Tel 21 #[.agg #[.int .i64 E,.int .i64 F],.int .u64 a,.int .u64 b] (.tuple #[.int .i64 o1,.int .i64 h1])) (HS1 : Tel 22 #[.agg #[.int .i64 E,.int .i64 F],.int .u64 a,.int .u64 b] (.tuple #[.bool d1,.int .u64 n1,.int .i64 j1])) (RS1 : Tel 23 #[.agg #[.int .i64 E,.int .i64 F],.int .u64 a,.int .u64 b] (.tuple #[.bool d1,.int .u64 n1,.int .i64 j1])) (m1 : Int) (HM1 : Hid (∀ W : World,Tb W → Calls Tryz.prog 24 #[.agg #[.int .i64 E,.int .i64 F],.int .u64 a,.int .u64 b] W fun e w' => e = .returned (.tuple #[.agg #[.bool false,.slice none 0 0,.int .i64 0],.int .i64 m1]) ∧ Below W.heap.size W w')) (RM1 : Tel 25 #[.agg #[.int .i64 E,.int .i64 F],.int .u64 a,.int .u64 b] (.tuple #[.agg #[.bool false,.slice none 0 0,.int .i64 0],.int .i64 m1])) (k2 e2 o2 h2 n2 j2 : Int) (i2 d2 : Bool) (HC2 : Tel 18 #[.agg #[.int .i64 E,.int .i64 F],.int .u64 b,.int .u64 a] (.tuple #[.int .i64 k2,.bool i2,.int .i64 e2])) (RC2 : Tel 19 #[.agg #[.int .i64 E,.int .i64 F],.int .u64 b,.int .u64 a] (.tuple #[.int .i64 k2,.bool i2,.int .i64 e2])) (HO2 : Tel 20 #[.agg #[.int .i64 E,.int .i64 F],.int .u64 b,.int .u64 a] (.tuple #[.int .i64 o2,.int .i64 h2])) (RO2 : Tel 21 #[.agg #[.int .i64 E,.int .i64 F],.int .u64 b,.int .u64 a] (.tuple #[.int .i64 o2,.int .i64 h2])) (HS2 : Tel 22 #[.agg #[.int .i64 E,.int .i64 F],.int .u64 b,.int .u64 a] (.tuple #[.bool d2,.int .u64 n2,.int .i64 j2])) (RS2 : Tel 23 #[.agg #[.int .i64 E,.int .i64 F],.int .u64 b,.int .u64 a] (.tuple #[.bool d2,.int .u64 n2,.int .i64 j2])) (m2 : Int) (HM2 : Hid (∀ W : World,Tb W → Calls Tryz.prog 24 #[.agg #[.int .i64 E,.int .i64 F],.int .u64 b,.int .u64 a] W fun e w' => e = .returned (.tuple #[.agg #[.bool false,.slice none 0 0,.int .i64 0],.int .i64 m2]) ∧ Below W.heap.size W w')) (RM2 : Tel 25 #[.agg #[.int .i64 E,.int .i64 F],.int .u64 b,.int .u64 a] (.tuple #[.agg #[.bool false,.slice none 0 0,.int .i64 0],.int .i64 m2]))  (w : World) (hT : Tb w) (HW : Hid (∀ W : World,Below w.heap.size w W → Calls Tryz.prog 9 #[] W fun e w' => e = .returned (.bool true) ∧ Below W.heap.size W w')) :
  Calls Tryz.prog 4 #[.agg #[.int .i64 E,.int .i64 F],.int .u64 a,.int .u64 b] w fun e w' => e = .returned (.bool true) ∧ Below w.heap.size w w' := by
 have HT := hide hT
 clear hT
 go_enter Tryz.func4,Tryz.ntmps4
 go_wp2_with fail
 refine (unhide HW _ (Fs.one w _ _).fr).mono ?_
 rintro e w1 ⟨rfl,hb1⟩
 have hS := (Fs.one w _ _).kept hb1
 obtain ⟨⟨ya,yb,-⟩,-⟩ := hS.cells
 go_wp2
 refine wp_loop_rounds 3 ?_
 rw [rounds_succ]
 go_wp2_with fail
 refine (HC1 _).mono ?_
 rintro e w2 ⟨rfl,hb2⟩
 replace hS := hS.kept hb2
 clear ya yb
 obtain ⟨⟨yc,yd,-⟩,-⟩ := hS.cells
 go_wp2_with fail
 refine (RC1 _).mono ?_
 rintro e w3 ⟨rfl,hb3⟩
 replace hS := hS.kept hb3
 clear yc yd
 obtain ⟨⟨ye,yf,-⟩,-⟩ := hS.cells
 go_wp2_with fail
 refine (HO1 _).mono ?_
 rintro e w4 ⟨rfl,hb4⟩
 replace hS := hS.kept hb4
 clear ye yf
 obtain ⟨⟨yg,yh,-⟩,-⟩ := hS.cells
 go_wp2_with fail
 refine (RO1 _).mono ?_
 rintro e w5 ⟨rfl,hb5⟩
 replace hS := hS.kept hb5
 clear yg yh
 obtain ⟨⟨yi,yj,-⟩,-⟩ := hS.cells
 go_wp2_with fail
 refine (HS1 _).mono ?_
 rintro e w6 ⟨rfl,hb6⟩
 replace hS := hS.kept hb6
 clear yi yj
 obtain ⟨⟨yk,yl,-⟩,-⟩ := hS.cells
 go_wp2_with fail
 refine (RS1 _).mono ?_
 rintro e w7 ⟨rfl,hb7⟩
 replace hS := hS.kept hb7
 clear yk yl
 obtain ⟨⟨ym,yn,-⟩,-⟩ := hS.cells
 go_wp2_with fail
 refine (unhide HM1 _ ((unhide HT).kept hS.fr)).mono ?_
 rintro e w8 ⟨rfl,hb8⟩
 replace hS := hS.kept hb8
 clear ym yn
 obtain ⟨⟨yo,yp,-⟩,-⟩ := hS.cells
 have hltw8_0 : w.heap.size < w8.heap.size := hS.lt 0 rfl
 replace hS := hS.alloc #[.bool false,.slice none 0 0,.int .i64 0] 33
 clear yo yp
 obtain ⟨⟨yq,yr,ys,-⟩,⟨yt,yu,-⟩,-⟩ := hS.cells
 go_wp2_with fail
 refine (RM1 _).mono ?_
 rintro e w9 ⟨rfl,hb9⟩
 replace hS := hS.kept hb9
 clear yq yr ys yt yu
 obtain ⟨⟨yv,yw,yx,-⟩,⟨yy,yz,-⟩,-⟩ := hS.cells
 have hltw9_0 : w8.heap.size < w9.heap.size := hS.lt 0 rfl
 have hltw9_1 : w.heap.size < w9.heap.size := hS.lt 1 rfl
 replace hS := hS.alloc #[.bool false,.slice none 0 0,.int .i64 0] 33
 clear yv yw yx yy yz
 obtain ⟨⟨y0,y1,y2,-⟩,⟨y3,y4,y5,-⟩,⟨y6,y7,-⟩,-⟩ := hS.cells
 go_wp2_with fail
 refine (sdy_yes false none 0 0 0 0 none 0 0 _ (num_none _) (num_none _)).mono ?_
 rintro e w10 ⟨rfl,hb10⟩
 replace hS := hS.kept hb10
 clear y0 y1 y2 y3 y4 y5 y6 y7
 obtain ⟨⟨y8,y9,yba,-⟩,⟨ybb,ybc,ybd,-⟩,⟨ybe,ybf,-⟩,-⟩ := hS.cells
 go_wp2_with fail
 refine (spoil_nil _).mono ?_
 rintro e w11 ⟨rfl,hb11⟩
 replace hS := hS.kept hb11
 clear y8 y9 yba ybb ybc ybd ybe ybf
 obtain ⟨⟨ybg,ybh,ybi,-⟩,⟨ybj,ybk,ybl,-⟩,⟨ybm,ybn,-⟩,-⟩ := hS.cells
 go_wp2_with fail
 refine (unhide HM1 _ ((unhide HT).kept hS.fr)).mono ?_
 rintro e w12 ⟨rfl,hb12⟩
 replace hS := hS.kept hb12
 clear ybg ybh ybi ybj ybk ybl ybm ybn
 obtain ⟨⟨ybo,ybp,ybq,-⟩,⟨ybr,ybs,ybt,-⟩,⟨ybu,ybv,-⟩,-⟩ := hS.cells
 have hltw12_0 : w9.heap.size < w12.heap.size := hS.lt 0 rfl
 have hltw12_1 : w8.heap.size < w12.heap.size := hS.lt 1 rfl
 have hltw12_2 : w.heap.size < w12.heap.size := hS.lt 2 rfl
 replace hS := hS.alloc #[.bool false,.slice none 0 0,.int .i64 0] 33
 clear ybo ybp ybq ybr ybs ybt ybu ybv
 obtain ⟨⟨ybw,ybx,yby,-⟩,⟨ybz,yb0,yb1,-⟩,⟨yb2,yb3,yb4,-⟩,⟨yb5,yb6,-⟩,-⟩ := hS.cells
 go_wp2_with fail
 refine (sdy_yes false none 0 0 0 0 none 0 0 _ (num_none _) (num_none _)).mono ?_
 rintro e w13 ⟨rfl,hb13⟩
 replace hS := hS.kept hb13
 clear ybw ybx yby ybz yb0 yb1 yb2 yb3 yb4 yb5 yb6
 obtain ⟨⟨yb7,yb8,yb9,-⟩,⟨yca,ycb,ycc,-⟩,⟨ycd,yce,ycf,-⟩,⟨ycg,ych,-⟩,-⟩ := hS.cells
 go_wp2
 replace hS := hS.sub (bs' := [⟨w.heap.size,#[.int .i64 E,.int .i64 F],23⟩]) (by simp)
 clear yb7 yb8 yb9 yca ycb ycc ycd yce ycf ycg ych
 obtain ⟨⟨yci,ycj,-⟩,-⟩ := hS.cells
 rw [rounds_succ]
 go_wp2_with fail
 refine (HC2 _).mono ?_
 rintro e w14 ⟨rfl,hb14⟩
 replace hS := hS.kept hb14
 clear yci ycj
 obtain ⟨⟨yck,ycl,-⟩,-⟩ := hS.cells
 go_wp2_with fail
 refine (RC2 _).mono ?_
 rintro e w15 ⟨rfl,hb15⟩
 replace hS := hS.kept hb15
 clear yck ycl
 obtain ⟨⟨ycm,ycn,-⟩,-⟩ := hS.cells
 go_wp2_with fail
 refine (HO2 _).mono ?_
 rintro e w16 ⟨rfl,hb16⟩
 replace hS := hS.kept hb16
 clear ycm ycn
 obtain ⟨⟨yco,ycp,-⟩,-⟩ := hS.cells
 go_wp2_with fail
 refine (RO2 _).mono ?_
 rintro e w17 ⟨rfl,hb17⟩
 replace hS := hS.kept hb17
 clear yco ycp
 obtain ⟨⟨ycq,ycr,-⟩,-⟩ := hS.cells
 go_wp2_with fail
 refine (HS2 _).mono ?_
 rintro e w18 ⟨rfl,hb18⟩
 replace hS := hS.kept hb18
 clear ycq ycr
 obtain ⟨⟨ycs,yct,-⟩,-⟩ := hS.cells
 go_wp2_with fail
 refine (RS2 _).mono ?_
 rintro e w19 ⟨rfl,hb19⟩
 replace hS := hS.kept hb19
 clear ycs yct
 obtain ⟨⟨ycu,ycv,-⟩,-⟩ := hS.cells
 go_wp2_with fail
 refine (unhide HM2 _ ((unhide HT).kept hS.fr)).mono ?_
 rintro e w20 ⟨rfl,hb20⟩
 replace hS := hS.kept hb20
 clear ycu ycv
 obtain ⟨⟨ycw,ycx,-⟩,-⟩ := hS.cells
 have hltw20_0 : w.heap.size < w20.heap.size := hS.lt 0 rfl
 replace hS := hS.alloc #[.bool false,.slice none 0 0,.int .i64 0] 33
 clear ycw ycx
 obtain ⟨⟨ycy,ycz,yc0,-⟩,⟨yc1,yc2,-⟩,-⟩ := hS.cells
 go_wp2_with fail
 refine (RM2 _).mono ?_
 rintro e w21 ⟨rfl,hb21⟩
 replace hS := hS.kept hb21
 clear ycy ycz yc0 yc1 yc2
 obtain ⟨⟨yc3,yc4,yc5,-⟩,⟨yc6,yc7,-⟩,-⟩ := hS.cells
 have hltw21_0 : w20.heap.size < w21.heap.size := hS.lt 0 rfl
 have hltw21_1 : w.heap.size < w21.heap.size := hS.lt 1 rfl
 replace hS := hS.alloc #[.bool false,.slice none 0 0,.int .i64 0] 33
 clear yc3 yc4 yc5 yc6 yc7
 obtain ⟨⟨yc8,yc9,yda,-⟩,⟨ydb,ydc,ydd,-⟩,⟨yde,ydf,-⟩,-⟩ := hS.cells
 go_wp2_with fail
 refine (sdy_yes false none 0 0 0 0 none 0 0 _ (num_none _) (num_none _)).mono ?_
 rintro e w22 ⟨rfl,hb22⟩
 replace hS := hS.kept hb22
 clear yc8 yc9 yda ydb ydc ydd yde ydf
 obtain ⟨⟨ydg,ydh,ydi,-⟩,⟨ydj,ydk,ydl,-⟩,⟨ydm,ydn,-⟩,-⟩ := hS.cells
 go_wp2_with fail
 refine (spoil_nil _).mono ?_
 rintro e w23 ⟨rfl,hb23⟩
 replace hS := hS.kept hb23
 clear ydg ydh ydi ydj ydk ydl ydm ydn
 obtain ⟨⟨ydo,ydp,ydq,-⟩,⟨ydr,yds,ydt,-⟩,⟨ydu,ydv,-⟩,-⟩ := hS.cells
 go_wp2_with fail
 refine (unhide HM2 _ ((unhide HT).kept hS.fr)).mono ?_
 rintro e w24 ⟨rfl,hb24⟩
 replace hS := hS.kept hb24
 clear ydo ydp ydq ydr yds ydt ydu ydv
 obtain ⟨⟨ydw,ydx,ydy,-⟩,⟨ydz,yd0,yd1,-⟩,⟨yd2,yd3,-⟩,-⟩ := hS.cells
 have hltw24_0 : w21.heap.size < w24.heap.size := hS.lt 0 rfl
 have hltw24_1 : w20.heap.size < w24.heap.size := hS.lt 1 rfl
 have hltw24_2 : w.heap.size < w24.heap.size := hS.lt 2 rfl
 replace hS := hS.alloc #[.bool false,.slice none 0 0,.int .i64 0] 33
 clear ydw ydx ydy ydz yd0 yd1 yd2 yd3
 obtain ⟨⟨yd4,yd5,yd6,-⟩,⟨yd7,yd8,yd9,-⟩,⟨yea,yeb,yec,-⟩,⟨yed,yee,-⟩,-⟩ := hS.cells
 go_wp2_with fail
 refine (sdy_yes false none 0 0 0 0 none 0 0 _ (num_none _) (num_none _)).mono ?_
 rintro e w25 ⟨rfl,hb25⟩
 replace hS := hS.kept hb25
 clear yd4 yd5 yd6 yd7 yd8 yd9 yea yeb yec yed yee
 obtain ⟨⟨yef,yeg,yeh,-⟩,⟨yei,yej,yek,-⟩,⟨yel,yem,yen,-⟩,⟨yeo,yep,-⟩,-⟩ := hS.cells
 go_wp2
 replace hS := hS.sub (bs' := [⟨w.heap.size,#[.int .i64 E,.int .i64 F],23⟩]) (by simp)
 clear yef yeg yeh yei yej yek yel yem yen yeo yep
 obtain ⟨⟨yeq,yer,-⟩,-⟩ := hS.cells
 rw [rounds_succ]
 go_wp2
 go_ret
 exact ⟨rfl,hS.fr⟩
theorem Fm.inf4 {E F S I b ex fr : Nat} {neg : Bool} (h : Fm E F S I) (hB : Bt E F b neg ex fr) : cls ex fr (2 ^ E - 1) = 4 ↔ b % S = I := by
 have hr := hB.rest
 rw [← h.hS] at hr
 have h1 := hB.fr_lt
 have h2 := hB.ex_lt
 have hI := h.hI
 have hE : 2 ^ 2 ≤ 2 ^ E := pow_bound h.fo.e2
 have h6 := h.six
 have hmul : ex < 2 ^ E - 1 → ex * 2 ^ F + 2 ^ F ≤ (2 ^ E - 1) * 2 ^ F := fun hx => by
  have := Nat.mul_le_mul_right (2 ^ F) (show ex + 1 ≤ 2 ^ E - 1 from hx)
  rw [Nat.add_mul,Nat.one_mul] at this
  exact this
 unfold cls
 by_cases h0 : ex = 0
 ·subst h0
  have := hmul (by omega)
  by_cases h3 : fr = 0
  ·simp [h3]; omega
  ·simp [h3]; omega
 ·by_cases hlt : ex < 2 ^ E - 1
  ·have := hmul hlt
   simp [h0,hlt]; omega
  ·have he : ex = 2 ^ E - 1 := by omega
   have hm : ex * 2 ^ F = I := by rw [he,hI]
   by_cases h3 : fr = 0
   ·simp [h0,hlt,h3]; omega
   ·simp [h0,hlt,h3]; omega
theorem cls_five (ex fr top : Nat) : 1 ≤ cls ex fr top ∧ cls ex fr top ≤ 5 := by
 unfold cls
 split
 ·omega
 ·split
  ·omega
  ·split
   ·omega
   ·split <;> omega
theorem half_T {E F S I : Nat} (h : Fm E F S I) : Tel 50 #[.agg #[.int .i64 E,.int .i64 F]] (.int .u64 (S : Int)) := fun W => rhalf6 E F S h.fo (hide h.hS) W
theorem rfits_T {E F S I b : Nat} (h : Fm E F S I) (hb : b < 2 * S) : Tel 47 #[.agg #[.int .i64 E,.int .i64 F],.int .u64 (b : Int)] (.int .i64 0) := fun W => rfits_ok E F b h.fo (h.bt hb) W
theorem rcls_T {E F S I b : Nat} (h : Fm E F S I) (hb : b < 2 * S) : ∃ c : Nat,1 ≤ c ∧ c ≤ 5 ∧ (c = 5 ↔ I < b % S) ∧ (c = 4 ↔ b % S = I) ∧ Tel 108 #[.agg #[.int .i64 E,.int .i64 F],.int .u64 (b : Int)] (.tuple #[.int .u8 (c : Int),.int .i64 0]) := by
 have hB := Bt.of E F b (h.bt hb)
 have hc := cls_five (b % 2 ^ (F + E) / 2 ^ F) (b % 2 ^ F) (2 ^ E - 1)
 exact ⟨_,hc.1,hc.2,h.nan hB,h.inf4 hB,fun W => rClass_ok E F b _ _ _ h.fo hB _ (hide rfl) W⟩
theorem ne_of {c k : Nat} (h : ¬ c = k) : ((c : Int) == (k : Int)) = false := by simp only [beq_eq_false_iff_ne,ne_eq]; omega
end Go.Proofs.YtkebhccbhoamjaaGreatDoor
