/- Of what RoundWorthRow stands on: RProd RRat RMake RQuo. -/
import Derived.Test.YtbbhlfngjoongaaGreatDoorPau
namespace Go.Proofs.YtbbhlfngjoongaaGreatDoor
open Go.RowKit
set_option maxHeartbeats 8000000
set_option maxRecDepth 20000
structure Prd3S where
 (b0 b1 b2 b3 b4 b5 b6 b7 b8 b9 b10 b11 b12:Bool)
 (v0 v1 v2 v3 v4 v5 v6 v7 v8 v9 v10 v11:Value)
 (A4:Option Addr)
 (N4 C4:Nat)
 (M4:Nat)
 (E4:Int)
 (A9:Option Addr)
 (N9 C9:Nat)
 (M9:Nat)
 (E9:Int)
 (A10:Option Addr)
 (N10 C10:Nat)
 (M10:Nat)
 (E10:Int)
 bs9:List En
 os9:Os
structure Prd3R (w:World) (s t:Bool) (a1 a2 a3 a4:Option Addr) (n1 n2 n3 n4 c1 c2 c3 c4 m1 d1 m2 d2:Nat) (x1_A6:Option Addr) (x1_N6:Nat) (x1_C6:Nat) (x1_M6:Nat) (x1_A13:Option Addr) (x1_N13:Nat) (x1_C13:Nat) (x1_M13:Nat) (x1_g14:Nat) (x1_g15:Nat) (x2_A4:Option Addr) (x2_N4:Nat) (x2_C4:Nat) (x2_A9:Option Addr) (x2_N9:Nat) (x2_C9:Nat) (x2_A10:Option Addr) (x2_N10:Nat) (x2_C10:Nat) (x2_M10:Nat) (x2_E10:Int) (x2_g11:Nat) (S9:Nat) (b0 b1 b2 b3 b4 b5 b6 b7 b8 b9 b10 b11 b12:Bool) (v0 v1 v2 v3 v4 v5 v6 v7 v8 v9 v10 v11:Value) (A4:Option Addr) (N4 C4:Nat) (M4:Nat) (E4:Int) (A9:Option Addr) (N9 C9:Nat) (M9:Nat) (E9:Int) (A10:Option Addr) (N10 C10:Nat) (M10:Nat) (E10:Int) (bs9:List En) (os9:Os) (w':World):Prop where
 hc:Rc w S9 [⟨x2_g11,#[.slice x2_A10 x2_N10 x2_C10],28⟩,⟨x1_g15,#[.slice x1_A13 x1_N13 x1_C13],28⟩,⟨x1_g14,#[.slice x1_A6 x1_N6 x1_C6],28⟩,⟨w.heap.size+1,#[.bool false,.slice none 0 0,.slice none 0 0],35⟩,⟨w.heap.size,#[.bool s,.slice a1 n1 c1,.slice a2 n2 c2,.bool t,.slice a3 n3 c3,.slice a4 n4 c4],76⟩] [(a4,n4,d2),(a3,n3,m2),(a2,n2,d1),(a1,n1,m1)] [(x2_A10,x2_N10,x2_C10,x2_M10),(x1_A6,x1_N6,x1_C6,x1_M6),(x1_A13,x1_N13,x1_C13,x1_M13)] (some ((w.heap.size+1+1),(cond b10 E10 (cond b9 E9 (cond b4 E4 x2_E10))))) bs9 os9 w'
 f0:b0 = true→v0 = .pointer (some ⟨w.heap.size,0,none⟩)
 f1:b1 = true→v1 = .pointer (some ⟨w.heap.size,2,none⟩)
 f2:b2 = true→v2 = .agg #[.slice a2 n2 c2]
 f3:b3 = true→v3 = .agg #[.slice x1_A13 x1_N13 x1_C13]
 f4:b4 = true→v4 = .agg #[.slice A4 N4 C4]∧(A4,N4,C4,M4)∈os9∧(∃ R,Wd x2_E10 E4 M4 R d1 x1_M13)
 f5:b5 = true→v5 = .pointer (some ⟨w.heap.size,3,none⟩)
 f6:b6 = true→v6 = .pointer (some ⟨w.heap.size,5,none⟩)
 f7:b7 = true→v7 = .agg #[.slice a4 n4 c4]
 f8:b8 = true→v8 = .agg #[.slice x1_A6 x1_N6 x1_C6]
 f9:b9 = true→v9 = .agg #[.slice A9 N9 C9]∧(A9,N9,C9,M9)∈os9∧(∃ R,Wd E4 E9 M9 R d2 x1_M6)
 f10:b10 = true→v10 = .agg #[.slice A10 N10 C10]∧(A10,N10,C10,M10)∈os9∧Wz E9 E10 M10 (M4 * M9) (Over (M4 * M9))
 f11:b11 = true→AlV bs9 S9 v11 28
 f12:b12 = true→StV bs9 S9 v11 v10 28
 g9_4:b9 = true→b4 = true
 g10_4:b10 = true→b4 = true
 g10_9:b10 = true→b9 = true
 g12_11:b12 = true→b11 = true
 g12_10:b12 = true→b10 = true
 g12_4:b12 = true→b4 = true
 g12_9:b12 = true→b9 = true
def Prd3I (w:World) (s t:Bool) (a1 a2 a3 a4:Option Addr) (n1 n2 n3 n4 c1 c2 c3 c4 m1 d1 m2 d2:Nat) (x1_A6:Option Addr) (x1_N6:Nat) (x1_C6:Nat) (x1_M6:Nat) (x1_A13:Option Addr) (x1_N13:Nat) (x1_C13:Nat) (x1_M13:Nat) (x1_g14:Nat) (x1_g15:Nat) (x2_A4:Option Addr) (x2_N4:Nat) (x2_C4:Nat) (x2_A9:Option Addr) (x2_N9:Nat) (x2_C9:Nat) (x2_A10:Option Addr) (x2_N10:Nat) (x2_C10:Nat) (x2_M10:Nat) (x2_E10:Int) (x2_g11:Nat) (S9:Nat) (l:Array Bool) (act:Act) (w':World):Prd3S→Prop
 | ⟨b0,b1,b2,b3,b4,b5,b6,b7,b8,b9,b10,b11,b12,v0,v1,v2,v3,v4,v5,v6,v7,v8,v9,v10,v11,A4,N4,C4,M4,E4,A9,N9,C9,M9,E9,A10,N10,C10,M10,E10,bs9,os9⟩=>l = #[b0,b1,b2,b3,b4,b5,b6,b7,b8,b9,b10,b11,b12]∧act = { tmps:=#[.agg #[.bool s,.slice a1 n1 c1,.slice a2 n2 c2,.bool t,.slice a3 n3 c3,.slice a4 n4 c4],.pointer (some ⟨w.heap.size,0,none⟩),.pointer (some ⟨w.heap.size+1,0,none⟩),.int .i64 0,.pointer (some ⟨w.heap.size+1+1,0,none⟩),.pointer (some ⟨x1_g14,0,none⟩),.pointer (some ⟨x1_g15,0,none⟩),.pointer (some ⟨x2_g11,0,none⟩),v11,.pointer (some ⟨w.heap.size,0,none⟩),.pointer (some ⟨w.heap.size,1,none⟩),.agg #[.slice a1 n1 c1],.pointer (some ⟨w.heap.size,3,none⟩),.pointer (some ⟨w.heap.size,5,none⟩),.agg #[.slice a4 n4 c4],.agg #[.slice x1_A6 x1_N6 x1_C6],.pointer (some ⟨w.heap.size,3,none⟩),.pointer (some ⟨w.heap.size,4,none⟩),.agg #[.slice a3 n3 c3],.pointer (some ⟨w.heap.size,0,none⟩),.pointer (some ⟨w.heap.size,2,none⟩),.agg #[.slice a2 n2 c2],.agg #[.slice x1_A13 x1_N13 x1_C13],.pointer (some ⟨w.heap.size,0,none⟩),.pointer (some ⟨w.heap.size,1,none⟩),.agg #[.slice a1 n1 c1],.agg #[.slice x1_A6 x1_N6 x1_C6],.agg #[.slice x2_A4 x2_N4 x2_C4],.pointer (some ⟨w.heap.size,3,none⟩),.pointer (some ⟨w.heap.size,4,none⟩),.agg #[.slice a3 n3 c3],.agg #[.slice x1_A13 x1_N13 x1_C13],.agg #[.slice x2_A9 x2_N9 x2_C9],.agg #[.slice x2_A10 x2_N10 x2_C10],v0,v1,v2,v3,v4,v5,v6,v7,v8,v9,v10,undef,undef,undef,undef,undef,undef,undef,undef,undef,undef,undef,undef],defers:=[] }∧Prd3R w s t a1 a2 a3 a4 n1 n2 n3 n4 c1 c2 c3 c4 m1 d1 m2 d2 x1_A6 x1_N6 x1_C6 x1_M6 x1_A13 x1_N13 x1_C13 x1_M13 x1_g14 x1_g15 x2_A4 x2_N4 x2_C4 x2_A9 x2_N9 x2_C9 x2_A10 x2_N10 x2_C10 x2_M10 x2_E10 x2_g11 S9 b0 b1 b2 b3 b4 b5 b6 b7 b8 b9 b10 b11 b12 v0 v1 v2 v3 v4 v5 v6 v7 v8 v9 v10 v11 A4 N4 C4 M4 E4 A9 N9 C9 M9 E9 A10 N10 C10 M10 E10 bs9 os9 w'
structure Prd2S where
 (b0 b1 b2 b3 b4 b5 b6 b7 b8 b9 b10 b11 b12:Bool)
 (v0 v1 v2 v3 v4 v5 v6 v7 v8 v9 v10 v11:Value)
 (A4:Option Addr)
 (N4 C4:Nat)
 (M4:Nat)
 (E4:Int)
 (A9:Option Addr)
 (N9 C9:Nat)
 (M9:Nat)
 (E9:Int)
 (A10:Option Addr)
 (N10 C10:Nat)
 (M10:Nat)
 (E10:Int)
 bs9:List En
 os9:Os
structure Prd2R (w:World) (s t:Bool) (a1 a2 a3 a4:Option Addr) (n1 n2 n3 n4 c1 c2 c3 c4 m1 d1 m2 d2:Nat) (x1_A6:Option Addr) (x1_N6:Nat) (x1_C6:Nat) (x1_M6:Nat) (x1_A13:Option Addr) (x1_N13:Nat) (x1_C13:Nat) (x1_M13:Nat) (x1_E13:Int) (x1_g14:Nat) (x1_g15:Nat) (S9:Nat) (b0 b1 b2 b3 b4 b5 b6 b7 b8 b9 b10 b11 b12:Bool) (v0 v1 v2 v3 v4 v5 v6 v7 v8 v9 v10 v11:Value) (A4:Option Addr) (N4 C4:Nat) (M4:Nat) (E4:Int) (A9:Option Addr) (N9 C9:Nat) (M9:Nat) (E9:Int) (A10:Option Addr) (N10 C10:Nat) (M10:Nat) (E10:Int) (bs9:List En) (os9:Os) (w':World):Prop where
 hc:Rc w S9 [⟨x1_g15,#[.slice x1_A13 x1_N13 x1_C13],28⟩,⟨x1_g14,#[.slice x1_A6 x1_N6 x1_C6],28⟩,⟨w.heap.size+1,#[.bool false,.slice none 0 0,.slice none 0 0],35⟩,⟨w.heap.size,#[.bool s,.slice a1 n1 c1,.slice a2 n2 c2,.bool t,.slice a3 n3 c3,.slice a4 n4 c4],76⟩] [(a4,n4,d2),(a3,n3,m2),(a2,n2,d1),(a1,n1,m1)] [(x1_A6,x1_N6,x1_C6,x1_M6),(x1_A13,x1_N13,x1_C13,x1_M13)] (some ((w.heap.size+1+1),(cond b10 E10 (cond b9 E9 (cond b4 E4 x1_E13))))) bs9 os9 w'
 f0:b0 = true→v0 = .pointer (some ⟨w.heap.size,0,none⟩)
 f1:b1 = true→v1 = .pointer (some ⟨w.heap.size,1,none⟩)
 f2:b2 = true→v2 = .agg #[.slice a1 n1 c1]
 f3:b3 = true→v3 = .agg #[.slice x1_A6 x1_N6 x1_C6]
 f4:b4 = true→v4 = .agg #[.slice A4 N4 C4]∧(A4,N4,C4,M4)∈os9∧(∃ R,Wd x1_E13 E4 M4 R m1 x1_M6)
 f5:b5 = true→v5 = .pointer (some ⟨w.heap.size,3,none⟩)
 f6:b6 = true→v6 = .pointer (some ⟨w.heap.size,4,none⟩)
 f7:b7 = true→v7 = .agg #[.slice a3 n3 c3]
 f8:b8 = true→v8 = .agg #[.slice x1_A13 x1_N13 x1_C13]
 f9:b9 = true→v9 = .agg #[.slice A9 N9 C9]∧(A9,N9,C9,M9)∈os9∧(∃ R,Wd E4 E9 M9 R m2 x1_M13)
 f10:b10 = true→v10 = .agg #[.slice A10 N10 C10]∧(A10,N10,C10,M10)∈os9∧Wz E9 E10 M10 (M4 * M9) (Over (M4 * M9))
 f11:b11 = true→AlV bs9 S9 v11 28
 f12:b12 = true→StV bs9 S9 v11 v10 28
 g9_4:b9 = true→b4 = true
 g10_4:b10 = true→b4 = true
 g10_9:b10 = true→b9 = true
 g12_11:b12 = true→b11 = true
 g12_10:b12 = true→b10 = true
 g12_4:b12 = true→b4 = true
 g12_9:b12 = true→b9 = true
def Prd2I (w:World) (s t:Bool) (a1 a2 a3 a4:Option Addr) (n1 n2 n3 n4 c1 c2 c3 c4 m1 d1 m2 d2:Nat) (x1_A6:Option Addr) (x1_N6:Nat) (x1_C6:Nat) (x1_M6:Nat) (x1_A13:Option Addr) (x1_N13:Nat) (x1_C13:Nat) (x1_M13:Nat) (x1_E13:Int) (x1_g14:Nat) (x1_g15:Nat) (S9:Nat) (l:Array Bool) (act:Act) (w':World):Prd2S→Prop
 | ⟨b0,b1,b2,b3,b4,b5,b6,b7,b8,b9,b10,b11,b12,v0,v1,v2,v3,v4,v5,v6,v7,v8,v9,v10,v11,A4,N4,C4,M4,E4,A9,N9,C9,M9,E9,A10,N10,C10,M10,E10,bs9,os9⟩=>l = #[b0,b1,b2,b3,b4,b5,b6,b7,b8,b9,b10,b11,b12]∧act = { tmps:=#[.agg #[.bool s,.slice a1 n1 c1,.slice a2 n2 c2,.bool t,.slice a3 n3 c3,.slice a4 n4 c4],.pointer (some ⟨w.heap.size,0,none⟩),.pointer (some ⟨w.heap.size+1,0,none⟩),.int .i64 0,.pointer (some ⟨w.heap.size+1+1,0,none⟩),.pointer (some ⟨x1_g14,0,none⟩),.pointer (some ⟨x1_g15,0,none⟩),v11,undef,.pointer (some ⟨w.heap.size,0,none⟩),.pointer (some ⟨w.heap.size,1,none⟩),.agg #[.slice a1 n1 c1],.pointer (some ⟨w.heap.size,3,none⟩),.pointer (some ⟨w.heap.size,5,none⟩),.agg #[.slice a4 n4 c4],.agg #[.slice x1_A6 x1_N6 x1_C6],.pointer (some ⟨w.heap.size,3,none⟩),.pointer (some ⟨w.heap.size,4,none⟩),.agg #[.slice a3 n3 c3],.pointer (some ⟨w.heap.size,0,none⟩),.pointer (some ⟨w.heap.size,2,none⟩),.agg #[.slice a2 n2 c2],.agg #[.slice x1_A13 x1_N13 x1_C13],v0,v1,v2,v3,v4,v5,v6,v7,v8,v9,v10,undef,undef,undef,undef,undef,undef,undef,undef,undef,undef,undef,undef,undef,undef,undef,undef,undef,undef,undef,undef,undef,undef,undef],defers:=[] }∧Prd2R w s t a1 a2 a3 a4 n1 n2 n3 n4 c1 c2 c3 c4 m1 d1 m2 d2 x1_A6 x1_N6 x1_C6 x1_M6 x1_A13 x1_N13 x1_C13 x1_M13 x1_E13 x1_g14 x1_g15 S9 b0 b1 b2 b3 b4 b5 b6 b7 b8 b9 b10 b11 b12 v0 v1 v2 v3 v4 v5 v6 v7 v8 v9 v10 v11 A4 N4 C4 M4 E4 A9 N9 C9 M9 E9 A10 N10 C10 M10 E10 bs9 os9 w'
structure Prd1S where
 (b0 b1 b2 b3 b4 b5 b6 b7 b8 b9 b10 b11 b12 b13 b14 b15 b16 b17:Bool)
 (v0 v1 v2 v3 v4 v5 v6 v7 v8 v9 v10 v11 v12 v13 v14 v15:Value)
 (A6:Option Addr)
 (N6 C6:Nat)
 (M6:Nat)
 (E6:Int)
 (A13:Option Addr)
 (N13 C13:Nat)
 (M13:Nat)
 (E13:Int)
 bs9:List En
 os9:Os
structure Prd1R (w:World) (s t:Bool) (a1 a2 a3 a4:Option Addr) (n1 n2 n3 n4 c1 c2 c3 c4 m1 d1 m2 d2:Nat) (S9:Nat) (b0 b1 b2 b3 b4 b5 b6 b7 b8 b9 b10 b11 b12 b13 b14 b15 b16 b17:Bool) (v0 v1 v2 v3 v4 v5 v6 v7 v8 v9 v10 v11 v12 v13 v14 v15:Value) (A6:Option Addr) (N6 C6:Nat) (M6:Nat) (E6:Int) (A13:Option Addr) (N13 C13:Nat) (M13:Nat) (E13:Int) (bs9:List En) (os9:Os) (w':World):Prop where
 hc:Rc w S9 [⟨w.heap.size+1,#[.bool false,.slice none 0 0,.slice none 0 0],35⟩,⟨w.heap.size,#[.bool s,.slice a1 n1 c1,.slice a2 n2 c2,.bool t,.slice a3 n3 c3,.slice a4 n4 c4],76⟩] [(a4,n4,d2),(a3,n3,m2),(a2,n2,d1),(a1,n1,m1)] [] (some ((w.heap.size+1+1),(cond b13 E13 (cond b6 E6 0)))) bs9 os9 w'
 f0:b0 = true→v0 = .pointer (some ⟨w.heap.size,0,none⟩)
 f1:b1 = true→v1 = .pointer (some ⟨w.heap.size,1,none⟩)
 f2:b2 = true→v2 = .agg #[.slice a1 n1 c1]
 f3:b3 = true→v3 = .pointer (some ⟨w.heap.size,3,none⟩)
 f4:b4 = true→v4 = .pointer (some ⟨w.heap.size,5,none⟩)
 f5:b5 = true→v5 = .agg #[.slice a4 n4 c4]
 f6:b6 = true→v6 = .agg #[.slice A6 N6 C6]∧(A6,N6,C6,M6)∈os9∧Wz 0 E6 M6 (Nat.gcd m1 d2) (False)
 f7:b7 = true→v7 = .pointer (some ⟨w.heap.size,3,none⟩)
 f8:b8 = true→v8 = .pointer (some ⟨w.heap.size,4,none⟩)
 f9:b9 = true→v9 = .agg #[.slice a3 n3 c3]
 f10:b10 = true→v10 = .pointer (some ⟨w.heap.size,0,none⟩)
 f11:b11 = true→v11 = .pointer (some ⟨w.heap.size,2,none⟩)
 f12:b12 = true→v12 = .agg #[.slice a2 n2 c2]
 f13:b13 = true→v13 = .agg #[.slice A13 N13 C13]∧(A13,N13,C13,M13)∈os9∧Wz E6 E13 M13 (Nat.gcd m2 d1) (False)
 f14:b14 = true→AlV bs9 S9 v14 28
 f15:b15 = true→AlV bs9 S9 v15 28
 f16:b16 = true→StV bs9 S9 v14 v6 28
 f17:b17 = true→StV bs9 S9 v15 v13 28
 d14_15:b14 = true→b15 = true→v14≠v15
 g13_6:b13 = true→b6 = true
 g16_14:b16 = true→b14 = true
 g16_6:b16 = true→b6 = true
 g17_15:b17 = true→b15 = true
 g17_13:b17 = true→b13 = true
 g17_6:b17 = true→b6 = true
def Prd1I (w:World) (s t:Bool) (a1 a2 a3 a4:Option Addr) (n1 n2 n3 n4 c1 c2 c3 c4 m1 d1 m2 d2:Nat) (S9:Nat) (l:Array Bool) (act:Act) (w':World):Prd1S→Prop
 | ⟨b0,b1,b2,b3,b4,b5,b6,b7,b8,b9,b10,b11,b12,b13,b14,b15,b16,b17,v0,v1,v2,v3,v4,v5,v6,v7,v8,v9,v10,v11,v12,v13,v14,v15,A6,N6,C6,M6,E6,A13,N13,C13,M13,E13,bs9,os9⟩=>l = #[b0,b1,b2,b3,b4,b5,b6,b7,b8,b9,b10,b11,b12,b13,b14,b15,b16,b17]∧act = { tmps:=#[.agg #[.bool s,.slice a1 n1 c1,.slice a2 n2 c2,.bool t,.slice a3 n3 c3,.slice a4 n4 c4],.pointer (some ⟨w.heap.size,0,none⟩),.pointer (some ⟨w.heap.size+1,0,none⟩),.int .i64 0,.pointer (some ⟨w.heap.size+1+1,0,none⟩),v14,v15,undef,undef,v0,v1,v2,v3,v4,v5,v6,v7,v8,v9,v10,v11,v12,v13,undef,undef,undef,undef,undef,undef,undef,undef,undef,undef,undef,undef,undef,undef,undef,undef,undef,undef,undef,undef,undef,undef,undef,undef,undef,undef,undef,undef,undef,undef,undef,undef,undef,undef],defers:=[] }∧Prd1R w s t a1 a2 a3 a4 n1 n2 n3 n4 c1 c2 c3 c4 m1 d1 m2 d2 S9 b0 b1 b2 b3 b4 b5 b6 b7 b8 b9 b10 b11 b12 b13 b14 b15 b16 b17 v0 v1 v2 v3 v4 v5 v6 v7 v8 v9 v10 v11 v12 v13 v14 v15 A6 N6 C6 M6 E6 A13 N13 C13 M13 E13 bs9 os9 w'
theorem product_any (s t:Bool) (a1 a2 a3 a4:Option Addr) (n1 n2 n3 n4 c1 c2 c3 c4 m1 d1 m2 d2:Nat) (w:World) (h1:Num w a1 n1 m1) (h2:Num w a2 n2 d1) (h3:Num w a3 n3 m2) (h4:Num w a4 n4 d2) (hd1:0 < d1) (hd2:0 < d2) :
  Calls Tryz.prog 30 #[.agg #[.bool s,.slice a1 n1 c1,.slice a2 n2 c2,.bool t,.slice a3 n3 c3,.slice a4 n4 c4]] w fun en w'=>RAns w' w.heap.size en (s != t) (m1 / Nat.gcd m1 d2 * (m2 / Nat.gcd m2 d1)) (d1 / Nat.gcd m2 d1 * (d2 / Nat.gcd m1 d2))∧Below w.heap.size w w':=by
 have hS:=Rs.begin w
 replace hS:=hS.num h1
 replace hS:=hS.num h2
 replace hS:=hS.num h3
 replace hS:=hS.num h4
 replace hS:=hS.alloc #[.bool s,.slice a1 n1 c1,.slice a2 n2 c2,.bool t,.slice a3 n3 c3,.slice a4 n4 c4] 76
 try simp only [World.size_alloc] at hS
 replace hS:=hS.alloc #[.bool false,.slice none 0 0,.slice none 0 0] 35
 try simp only [World.size_alloc] at hS
 replace hS:=hS.work
 try simp only [World.size_alloc] at hS
 go_enter Tryz.func30,Tryz.ntmps30
 go_wp2_with fail
 refine wp_region_any (by kernel_rfl) ?_
 change wpAny _ _ _ _ _ _ _ (World.drew _)
 have hS9:=hS.drew
 have hsW9:(World.drew (((w.alloc (.cells #[.bool s,.slice a1 n1 c1,.slice a2 n2 c2,.bool t,.slice a3 n3 c3,.slice a4 n4 c4] 76)).alloc (.cells #[.bool false,.slice none 0 0,.slice none 0 0] 35)).alloc (.cells #[.int .i64 0] 117))).heap.size = w.heap.size+1+1+1:=by first|rfl|simp
 generalize World.drew (((w.alloc (.cells #[.bool s,.slice a1 n1 c1,.slice a2 n2 c2,.bool t,.slice a3 n3 c3,.slice a4 n4 c4] 76)).alloc (.cells #[.bool false,.slice none 0 0,.slice none 0 0] 35)).alloc (.cells #[.int .i64 0] 117)) = Wd at hS9 hsW9 ⊢
 obtain ⟨S9,hS9z⟩:∃ x,x = Wd.heap.size:=⟨_,rfl⟩
 have hC9:=Rc.start (bs:=[⟨w.heap.size+1,#[.bool false,.slice none 0 0,.slice none 0 0],35⟩,⟨w.heap.size,#[.bool s,.slice a1 n1 c1,.slice a2 n2 c2,.bool t,.slice a3 n3 c3,.slice a4 n4 c4],76⟩]) hS9 (by simp)
 rw [← hS9z] at hC9
 refine wpAny_inv (fun l act w'=>∃ σ,Prd1I w s t a1 a2 a3 a4 n1 n2 n3 n4 c1 c2 c3 c4 m1 d1 m2 d2 S9 l act w' σ) ?_ ?_ _ _ _ _ ?_ ?_
 ·intro l act w' i9 hI9 hi9 hl9
  have hin9:i9 < 18:=by
   by_cases h:i9 < 18
   ·exact h
   ·obtain ⟨⟨⟩,rfl,_⟩:=hI9
    rw [Array.getElem?_eq_none (by simp; omega)] at hl9; cases hl9
  have hcase:i9 = 0∨i9 = 1∨i9 = 2∨i9 = 3∨i9 = 4∨i9 = 5∨i9 = 6∨i9 = 7∨i9 = 8∨i9 = 9∨i9 = 10∨i9 = 11∨i9 = 12∨i9 = 13∨i9 = 14∨i9 = 15∨i9 = 16∨i9 = 17:=by omega
  clear hin9
  obtain ⟨⟨b0,b1,b2,b3,b4,b5,b6,b7,b8,b9,b10,b11,b12,b13,b14,b15,b16,b17,v0,v1,v2,v3,v4,v5,v6,v7,v8,v9,v10,v11,v12,v13,v14,v15,A6,N6,C6,M6,E6,A13,N13,C13,M13,E13,bs9,os9⟩,rfl,rfl,hR⟩:=hI9
  rcases hcase with rfl|rfl|rfl|rfl|rfl|rfl|rfl|rfl|rfl|rfl|rfl|rfl|rfl|rfl|rfl|rfl|rfl|rfl
  ·obtain rfl:b0 = false:=by simpa using hl9
   have hc:=hR.hc
   refine wpOp_step rfl fun K hK=>?_
   go_simp
   exact hK _ _ ⟨⟨_,_,_,_,_,_,_,_,_,_,_,_,_,_,_,_,_,_,_,_,_,_,_,_,_,_,_,_,_,_,_,_,_,_,A6,N6,C6,M6,E6,A13,N13,C13,M13,E13,_,_⟩,rfl,rfl,{ hR with hc:=hc,f0:=(fun _=>rfl) }⟩
  ·obtain rfl:b1 = false:=by simpa using hl9
   obtain ⟨o9,ho9,hd9⟩:=(mem_ready.1 hi9).2
   cases ho9
   have e0:b0 = true:=hd9 ⟨0,.data⟩ (by simp) rfl
   subst e0
   have h9:=hR.f0 rfl
   subst h9
   have hc:=hR.hc
   refine wpOp_step rfl fun K hK=>?_
   go_simp
   exact hK _ _ ⟨⟨_,_,_,_,_,_,_,_,_,_,_,_,_,_,_,_,_,_,_,_,_,_,_,_,_,_,_,_,_,_,_,_,_,_,A6,N6,C6,M6,E6,A13,N13,C13,M13,E13,_,_⟩,rfl,rfl,{ hR with hc:=hc,f1:=(fun _=>rfl) }⟩
  ·obtain rfl:b2 = false:=by simpa using hl9
   obtain ⟨o9,ho9,hd9⟩:=(mem_ready.1 hi9).2
   cases ho9
   have e1:b1 = true:=hd9 ⟨1,.data⟩ (by simp) rfl
   subst e1
   have h9:=hR.f1 rfl
   subst h9
   have hc:=hR.hc
   have c9_0:=hc.st.cellAt (hc.old ⟨w.heap.size,#[.bool s,.slice a1 n1 c1,.slice a2 n2 c2,.bool t,.slice a3 n3 c3,.slice a4 n4 c4],76⟩ (by simp)).1 1 (.slice a1 n1 c1) rfl
   simp only [] at c9_0
   refine wpOp_step rfl fun K hK=>?_
   go_simp
   exact hK _ _ ⟨⟨_,_,_,_,_,_,_,_,_,_,_,_,_,_,_,_,_,_,_,_,_,_,_,_,_,_,_,_,_,_,_,_,_,_,A6,N6,C6,M6,E6,A13,N13,C13,M13,E13,_,_⟩,rfl,rfl,{ hR with hc:=hc,f2:=(fun _=>rfl) }⟩
  ·obtain rfl:b3 = false:=by simpa using hl9
   have hc:=hR.hc
   refine wpOp_step rfl fun K hK=>?_
   go_simp
   exact hK _ _ ⟨⟨_,_,_,_,_,_,_,_,_,_,_,_,_,_,_,_,_,_,_,_,_,_,_,_,_,_,_,_,_,_,_,_,_,_,A6,N6,C6,M6,E6,A13,N13,C13,M13,E13,_,_⟩,rfl,rfl,{ hR with hc:=hc,f3:=(fun _=>rfl) }⟩
  ·obtain rfl:b4 = false:=by simpa using hl9
   obtain ⟨o9,ho9,hd9⟩:=(mem_ready.1 hi9).2
   cases ho9
   have e3:b3 = true:=hd9 ⟨3,.data⟩ (by simp) rfl
   subst e3
   have h9:=hR.f3 rfl
   subst h9
   have hc:=hR.hc
   refine wpOp_step rfl fun K hK=>?_
   go_simp
   exact hK _ _ ⟨⟨_,_,_,_,_,_,_,_,_,_,_,_,_,_,_,_,_,_,_,_,_,_,_,_,_,_,_,_,_,_,_,_,_,_,A6,N6,C6,M6,E6,A13,N13,C13,M13,E13,_,_⟩,rfl,rfl,{ hR with hc:=hc,f4:=(fun _=>rfl) }⟩
  ·obtain rfl:b5 = false:=by simpa using hl9
   obtain ⟨o9,ho9,hd9⟩:=(mem_ready.1 hi9).2
   cases ho9
   have e4:b4 = true:=hd9 ⟨4,.data⟩ (by simp) rfl
   subst e4
   have h9:=hR.f4 rfl
   subst h9
   have hc:=hR.hc
   have c9_0:=hc.st.cellAt (hc.old ⟨w.heap.size,#[.bool s,.slice a1 n1 c1,.slice a2 n2 c2,.bool t,.slice a3 n3 c3,.slice a4 n4 c4],76⟩ (by simp)).1 5 (.slice a4 n4 c4) rfl
   simp only [] at c9_0
   refine wpOp_step rfl fun K hK=>?_
   go_simp
   exact hK _ _ ⟨⟨_,_,_,_,_,_,_,_,_,_,_,_,_,_,_,_,_,_,_,_,_,_,_,_,_,_,_,_,_,_,_,_,_,_,A6,N6,C6,M6,E6,A13,N13,C13,M13,E13,_,_⟩,rfl,rfl,{ hR with hc:=hc,f5:=(fun _=>rfl) }⟩
  ·obtain rfl:b6 = false:=by simpa using hl9
   obtain ⟨o9,ho9,hd9⟩:=(mem_ready.1 hi9).2
   cases ho9
   have e2:b2 = true:=hd9 ⟨2,.data⟩ (by simp) rfl
   have e5:b5 = true:=hd9 ⟨5,.data⟩ (by simp) rfl
   subst e2 e5
   have h9:=hR.f2 rfl
   subst h9
   have h9:=hR.f5 rfl
   subst h9
   have hc:=hR.hc
   obtain rfl:b13 = false:=by cases h:b13; rfl; exact Bool.noConfusion (hR.g13_6 h)
   simp only [cond_false] at hc
   have HR:=hide hR
   clear hR
   refine wpOp_step rfl fun K hK=>?_
   go_simp
   go_wp2_with fail
   refine (W_gcd hc.st c1 c4 (hc.st.nm (a1,n1,m1) (by simp)) (hc.st.nm (a4,n4,d2) (by simp))).mono ?_
   rintro en w9 ⟨a9,n9,c9,m9,e9,rfl,hs9,hz,hz9⟩
   have hR:=unhide HR
   exact hK _ _ ⟨⟨_,_,_,_,_,_,_,_,_,_,_,_,_,_,_,_,_,_,_,_,_,_,_,_,_,_,_,_,_,_,_,_,_,_,_,_,_,_,_,A13,N13,C13,M13,E13,_,_⟩,rfl,rfl,{ hR with hc:=(hc.call hs9 hz9 (fun y hy=>List.mem_cons_of_mem _ hy)),f6:=(fun _=>⟨rfl,List.mem_cons_self ..,hz⟩),f13:=(fun h=>Bool.noConfusion (hR.g13_6 h)),f16:=(fun h=>Bool.noConfusion (hR.g16_6 h)),f17:=(fun h=>Bool.noConfusion (hR.g17_6 h)),g13_6:=(fun _=>rfl),g16_6:=(fun _=>rfl),g17_6:=(fun _=>rfl) }⟩
  ·obtain rfl:b7 = false:=by simpa using hl9
   have hc:=hR.hc
   refine wpOp_step rfl fun K hK=>?_
   go_simp
   exact hK _ _ ⟨⟨_,_,_,_,_,_,_,_,_,_,_,_,_,_,_,_,_,_,_,_,_,_,_,_,_,_,_,_,_,_,_,_,_,_,A6,N6,C6,M6,E6,A13,N13,C13,M13,E13,_,_⟩,rfl,rfl,{ hR with hc:=hc,f7:=(fun _=>rfl) }⟩
  ·obtain rfl:b8 = false:=by simpa using hl9
   obtain ⟨o9,ho9,hd9⟩:=(mem_ready.1 hi9).2
   cases ho9
   have e7:b7 = true:=hd9 ⟨7,.data⟩ (by simp) rfl
   subst e7
   have h9:=hR.f7 rfl
   subst h9
   have hc:=hR.hc
   refine wpOp_step rfl fun K hK=>?_
   go_simp
   exact hK _ _ ⟨⟨_,_,_,_,_,_,_,_,_,_,_,_,_,_,_,_,_,_,_,_,_,_,_,_,_,_,_,_,_,_,_,_,_,_,A6,N6,C6,M6,E6,A13,N13,C13,M13,E13,_,_⟩,rfl,rfl,{ hR with hc:=hc,f8:=(fun _=>rfl) }⟩
  ·obtain rfl:b9 = false:=by simpa using hl9
   obtain ⟨o9,ho9,hd9⟩:=(mem_ready.1 hi9).2
   cases ho9
   have e8:b8 = true:=hd9 ⟨8,.data⟩ (by simp) rfl
   subst e8
   have h9:=hR.f8 rfl
   subst h9
   have hc:=hR.hc
   have c9_0:=hc.st.cellAt (hc.old ⟨w.heap.size,#[.bool s,.slice a1 n1 c1,.slice a2 n2 c2,.bool t,.slice a3 n3 c3,.slice a4 n4 c4],76⟩ (by simp)).1 4 (.slice a3 n3 c3) rfl
   simp only [] at c9_0
   refine wpOp_step rfl fun K hK=>?_
   go_simp
   exact hK _ _ ⟨⟨_,_,_,_,_,_,_,_,_,_,_,_,_,_,_,_,_,_,_,_,_,_,_,_,_,_,_,_,_,_,_,_,_,_,A6,N6,C6,M6,E6,A13,N13,C13,M13,E13,_,_⟩,rfl,rfl,{ hR with hc:=hc,f9:=(fun _=>rfl) }⟩
  ·obtain rfl:b10 = false:=by simpa using hl9
   have hc:=hR.hc
   refine wpOp_step rfl fun K hK=>?_
   go_simp
   exact hK _ _ ⟨⟨_,_,_,_,_,_,_,_,_,_,_,_,_,_,_,_,_,_,_,_,_,_,_,_,_,_,_,_,_,_,_,_,_,_,A6,N6,C6,M6,E6,A13,N13,C13,M13,E13,_,_⟩,rfl,rfl,{ hR with hc:=hc,f10:=(fun _=>rfl) }⟩
  ·obtain rfl:b11 = false:=by simpa using hl9
   obtain ⟨o9,ho9,hd9⟩:=(mem_ready.1 hi9).2
   cases ho9
   have e10:b10 = true:=hd9 ⟨10,.data⟩ (by simp) rfl
   subst e10
   have h9:=hR.f10 rfl
   subst h9
   have hc:=hR.hc
   refine wpOp_step rfl fun K hK=>?_
   go_simp
   exact hK _ _ ⟨⟨_,_,_,_,_,_,_,_,_,_,_,_,_,_,_,_,_,_,_,_,_,_,_,_,_,_,_,_,_,_,_,_,_,_,A6,N6,C6,M6,E6,A13,N13,C13,M13,E13,_,_⟩,rfl,rfl,{ hR with hc:=hc,f11:=(fun _=>rfl) }⟩
  ·obtain rfl:b12 = false:=by simpa using hl9
   obtain ⟨o9,ho9,hd9⟩:=(mem_ready.1 hi9).2
   cases ho9
   have e11:b11 = true:=hd9 ⟨11,.data⟩ (by simp) rfl
   subst e11
   have h9:=hR.f11 rfl
   subst h9
   have hc:=hR.hc
   have c9_0:=hc.st.cellAt (hc.old ⟨w.heap.size,#[.bool s,.slice a1 n1 c1,.slice a2 n2 c2,.bool t,.slice a3 n3 c3,.slice a4 n4 c4],76⟩ (by simp)).1 2 (.slice a2 n2 c2) rfl
   simp only [] at c9_0
   refine wpOp_step rfl fun K hK=>?_
   go_simp
   exact hK _ _ ⟨⟨_,_,_,_,_,_,_,_,_,_,_,_,_,_,_,_,_,_,_,_,_,_,_,_,_,_,_,_,_,_,_,_,_,_,A6,N6,C6,M6,E6,A13,N13,C13,M13,E13,_,_⟩,rfl,rfl,{ hR with hc:=hc,f12:=(fun _=>rfl) }⟩
  ·obtain rfl:b13 = false:=by simpa using hl9
   obtain ⟨o9,ho9,hd9⟩:=(mem_ready.1 hi9).2
   cases ho9
   have e9:b9 = true:=hd9 ⟨9,.data⟩ (by simp) rfl
   have e12:b12 = true:=hd9 ⟨12,.data⟩ (by simp) rfl
   have e6:b6 = true:=hd9 ⟨6,.chain⟩ (by simp) rfl
   subst e9 e12 e6
   have h9:=hR.f9 rfl
   subst h9
   have h9:=hR.f12 rfl
   subst h9
   have q6:=hR.f6 rfl
   obtain ⟨h9,q6m,q6z⟩:=q6
   subst h9
   have hc:=hR.hc
   simp only [cond_true,cond_false] at hc
   have HR:=hide hR
   clear hR
   refine wpOp_step rfl fun K hK=>?_
   go_simp
   go_wp2_with fail
   refine (W_gcd hc.st c3 c2 (hc.st.nm (a3,n3,m2) (by simp)) (hc.st.nm (a2,n2,d1) (by simp))).mono ?_
   rintro en w9 ⟨a9,n9,c9,m9,e9,rfl,hs9,hz,hz9⟩
   have hR:=unhide HR
   exact hK _ _ ⟨⟨_,_,_,_,_,_,_,_,_,_,_,_,_,_,_,_,_,_,_,_,_,_,_,_,_,_,_,_,_,_,_,_,_,_,A6,N6,C6,M6,E6,_,_,_,_,_,_,_⟩,rfl,rfl,{ hR with hc:=(hc.call hs9 hz9 (fun y hy=>List.mem_cons_of_mem _ hy)),f6:=(fun h=>⟨(hR.f6 h).1,List.mem_cons_of_mem _ (hR.f6 h).2.1,(hR.f6 h).2.2⟩),f13:=(fun _=>⟨rfl,List.mem_cons_self ..,hz⟩),f17:=(fun h=>Bool.noConfusion (hR.g17_13 h)),g13_6:=(fun _=>rfl),g17_13:=(fun _=>rfl) }⟩
  ·obtain rfl:b14 = false:=by simpa using hl9
   have hc:=hR.hc
   refine wpOp_step rfl fun K hK=>?_
   go_simp
   exact hK _ _ ⟨⟨_,_,_,_,_,_,_,_,_,_,_,_,_,_,_,_,_,_,_,_,_,_,_,_,_,_,_,_,_,_,_,_,_,_,A6,N6,C6,M6,E6,A13,N13,C13,M13,E13,_,_⟩,rfl,rfl,{ hR with hc:=(hc.alloc #[.slice none 0 0] 28),f14:=(fun _=>AlV.self rfl hc.sz),f15:=(fun h=>(hR.f15 h).cons _),f16:=(fun h=>Bool.noConfusion (hR.g16_14 h)),f17:=(fun h=>(hR.f17 h).cons _),d14_15:=(fun _ h=>Ne.symm (AlV.ne (hR.f15 h) hc.st)),g16_14:=(fun _=>rfl) }⟩
  ·obtain rfl:b15 = false:=by simpa using hl9
   have hc:=hR.hc
   refine wpOp_step rfl fun K hK=>?_
   go_simp
   exact hK _ _ ⟨⟨_,_,_,_,_,_,_,_,_,_,_,_,_,_,_,_,_,_,_,_,_,_,_,_,_,_,_,_,_,_,_,_,_,_,A6,N6,C6,M6,E6,A13,N13,C13,M13,E13,_,_⟩,rfl,rfl,{ hR with hc:=(hc.alloc #[.slice none 0 0] 28),f14:=(fun h=>(hR.f14 h).cons _),f15:=(fun _=>AlV.self rfl hc.sz),f16:=(fun h=>(hR.f16 h).cons _),f17:=(fun h=>Bool.noConfusion (hR.g17_15 h)),d14_15:=(fun h _=>AlV.ne (hR.f14 h) hc.st),g17_15:=(fun _=>rfl) }⟩
  ·obtain rfl:b16 = false:=by simpa using hl9
   obtain ⟨o9,ho9,hd9⟩:=(mem_ready.1 hi9).2
   cases ho9
   have e6:b6 = true:=hd9 ⟨6,.data⟩ (by simp) rfl
   have e14:b14 = true:=hd9 ⟨14,.data⟩ (by simp) rfl
   subst e6 e14
   have q6:=hR.f6 rfl
   obtain ⟨h9,q6m,q6z⟩:=q6
   subst h9
   have hc:=hR.hc
   obtain ⟨g9,s9,h9,hg9,hm9⟩:=hR.f14 rfl
   subst h9
   have fz9:=hc.st.frozen hm9 0
   have cz9:=hc.st.cellAt hm9 0 s9 rfl
   simp only [] at fz9 cz9
   have hn9:∀ x,x∈([⟨w.heap.size+1,#[.bool false,.slice none 0 0,.slice none 0 0],35⟩,⟨w.heap.size,#[.bool s,.slice a1 n1 c1,.slice a2 n2 c2,.bool t,.slice a3 n3 c3,.slice a4 n4 c4],76⟩]:List En)→x.b≠g9:=fun x hx=>by have:=(hc.old x hx).2; omega
   refine wpOp_step rfl fun K hK=>?_
   go_simp
   exact hK _ _ ⟨⟨_,_,_,_,_,_,_,_,_,_,_,_,_,_,_,_,_,_,_,_,_,_,_,_,_,_,_,_,_,_,_,_,_,_,A6,N6,C6,M6,E6,A13,N13,C13,M13,E13,_,_⟩,rfl,rfl,{ hR with hc:=(hc.store hm9 (by have:=hc.w0s; omega) hn9 0 (.slice A6 N6 C6) (by simp)),f14:=(fun _=>AlV.self rfl hg9),f15:=(fun h=>(hR.f15 h).but (fun e=>hR.d14_15 rfl h e.symm) _),f16:=(fun _=>⟨g9,_,rfl,hg9,rfl,List.mem_cons_self ..⟩),f17:=(fun h=>(hR.f17 h).but (fun e=>hR.d14_15 rfl (hR.g17_15 h) e.symm) _),g16_14:=(fun _=>rfl),g16_6:=(fun _=>rfl) }⟩
  ·obtain rfl:b17 = false:=by simpa using hl9
   obtain ⟨o9,ho9,hd9⟩:=(mem_ready.1 hi9).2
   cases ho9
   have e13:b13 = true:=hd9 ⟨13,.data⟩ (by simp) rfl
   have e15:b15 = true:=hd9 ⟨15,.data⟩ (by simp) rfl
   subst e13 e15
   have q13:=hR.f13 rfl
   obtain ⟨h9,q13m,q13z⟩:=q13
   subst h9
   have hc:=hR.hc
   obtain ⟨g9,s9,h9,hg9,hm9⟩:=hR.f15 rfl
   subst h9
   have fz9:=hc.st.frozen hm9 0
   have cz9:=hc.st.cellAt hm9 0 s9 rfl
   simp only [] at fz9 cz9
   have hn9:∀ x,x∈([⟨w.heap.size+1,#[.bool false,.slice none 0 0,.slice none 0 0],35⟩,⟨w.heap.size,#[.bool s,.slice a1 n1 c1,.slice a2 n2 c2,.bool t,.slice a3 n3 c3,.slice a4 n4 c4],76⟩]:List En)→x.b≠g9:=fun x hx=>by have:=(hc.old x hx).2; omega
   refine wpOp_step rfl fun K hK=>?_
   go_simp
   exact hK _ _ ⟨⟨_,_,_,_,_,_,_,_,_,_,_,_,_,_,_,_,_,_,_,_,_,_,_,_,_,_,_,_,_,_,_,_,_,_,A6,N6,C6,M6,E6,A13,N13,C13,M13,E13,_,_⟩,rfl,rfl,{ hR with hc:=(hc.store hm9 (by have:=hc.w0s; omega) hn9 0 (.slice A13 N13 C13) (by simp)),f14:=(fun h=>(hR.f14 h).but (fun e=>hR.d14_15 h rfl e) _),f15:=(fun _=>AlV.self rfl hg9),f16:=(fun h=>(hR.f16 h).but (fun e=>hR.d14_15 (hR.g16_14 h) rfl e) _),f17:=(fun _=>⟨g9,_,rfl,hg9,rfl,List.mem_cons_self ..⟩),g17_15:=(fun _=>rfl),g17_13:=(fun _=>rfl),g17_6:=(fun _=>hR.g13_6 rfl) }⟩
 ·rintro l act Wq1 ⟨⟨b0,b1,b2,b3,b4,b5,b6,b7,b8,b9,b10,b11,b12,b13,b14,b15,b16,b17,v0,v1,v2,v3,v4,v5,v6,v7,v8,v9,v10,v11,v12,v13,v14,v15,x1_A6,x1_N6,x1_C6,x1_M6,x1_E6,x1_A13,x1_N13,x1_C13,x1_M13,x1_E13,bs9,os9⟩,rfl,rfl,hR⟩ hr9
  obtain ⟨hc,f0,f1,f2,f3,f4,f5,f6,f7,f8,f9,f10,f11,f12,f13,f14,f15,f16,f17,d14_15,g13_6,g16_14,g16_6,g17_15,g17_13,g17_6⟩:=hR
  have eall:=all_done hr9 (by kernel_rfl) rfl
  obtain rfl:b0 = true:=eall 0 (by decide)
  obtain rfl:b1 = true:=eall 1 (by decide)
  obtain rfl:b2 = true:=eall 2 (by decide)
  obtain rfl:b3 = true:=eall 3 (by decide)
  obtain rfl:b4 = true:=eall 4 (by decide)
  obtain rfl:b5 = true:=eall 5 (by decide)
  obtain rfl:b6 = true:=eall 6 (by decide)
  obtain rfl:b7 = true:=eall 7 (by decide)
  obtain rfl:b8 = true:=eall 8 (by decide)
  obtain rfl:b9 = true:=eall 9 (by decide)
  obtain rfl:b10 = true:=eall 10 (by decide)
  obtain rfl:b11 = true:=eall 11 (by decide)
  obtain rfl:b12 = true:=eall 12 (by decide)
  obtain rfl:b13 = true:=eall 13 (by decide)
  obtain rfl:b14 = true:=eall 14 (by decide)
  obtain rfl:b15 = true:=eall 15 (by decide)
  obtain rfl:b16 = true:=eall 16 (by decide)
  obtain rfl:b17 = true:=eall 17 (by decide)
  clear hr9 eall
  have h9:=f0 rfl
  subst h9
  have h9:=f1 rfl
  subst h9
  have h9:=f2 rfl
  subst h9
  have h9:=f3 rfl
  subst h9
  have h9:=f4 rfl
  subst h9
  have h9:=f5 rfl
  subst h9
  obtain ⟨h9,q6m,qx1_6⟩:=f6 rfl
  subst h9
  have h9:=f7 rfl
  subst h9
  have h9:=f8 rfl
  subst h9
  have h9:=f9 rfl
  subst h9
  have h9:=f10 rfl
  subst h9
  have h9:=f11 rfl
  subst h9
  have h9:=f12 rfl
  subst h9
  obtain ⟨h9,q13m,qx1_13⟩:=f13 rfl
  subst h9
  obtain ⟨x1_g14,s9,h9,hg14,hs9,hm14⟩:=f16 rfl
  subst h9
  obtain rfl:s9 = .slice x1_A6 x1_N6 x1_C6:=by simpa using hs9.symm
  clear hs9
  obtain ⟨x1_g15,s9,h9,hg15,hs9,hm15⟩:=f17 rfl
  subst h9
  obtain rfl:s9 = .slice x1_A13 x1_N13 x1_C13:=by simpa using hs9.symm
  clear hs9
  simp only [cond_true] at hc
  have hbs9:∀ x,x∈([⟨x1_g15,#[.slice x1_A13 x1_N13 x1_C13],28⟩,⟨x1_g14,#[.slice x1_A6 x1_N6 x1_C6],28⟩,⟨w.heap.size+1,#[.bool false,.slice none 0 0,.slice none 0 0],35⟩,⟨w.heap.size,#[.bool s,.slice a1 n1 c1,.slice a2 n2 c2,.bool t,.slice a3 n3 c3,.slice a4 n4 c4],76⟩]:List En)→x∈bs9:=by
   intro x hx
   rcases List.mem_cons.1 hx with rfl|hx
   ·exact hm15
   rcases List.mem_cons.1 hx with rfl|hx
   ·exact hm14
   rcases List.mem_cons.1 hx with rfl|hx
   ·exact (hc.old _ (by simp)).1
   rcases List.mem_cons.1 hx with rfl|hx
   ·exact (hc.old _ (by simp)).1
   exact absurd hx List.not_mem_nil
  have hos9:∀ x,x∈([(x1_A6,x1_N6,x1_C6,x1_M6),(x1_A13,x1_N13,x1_C13,x1_M13)]:Os)→x∈os9:=by
   intro x hx
   rcases List.mem_cons.1 hx with rfl|hx
   ·exact q6m
   rcases List.mem_cons.1 hx with rfl|hx
   ·exact q13m
   exact absurd hx List.not_mem_nil
  have hS:=hc.st.sub hbs9 (fun x hx=>hx) hos9
  have hsz9:=hc.sz
  rw [hS9z,hsW9] at hsz9
  have hlx1_g14:=hg14
  rw [hS9z,hsW9] at hlx1_g14
  have hux1_g14:=block_lt (hc.st.bx _ hm14).1
  simp only [] at hux1_g14
  have hlx1_g15:=hg15
  rw [hS9z,hsW9] at hlx1_g15
  have hux1_g15:=block_lt (hc.st.bx _ hm15).1
  simp only [] at hux1_g15
  have hnx1_14_15:x1_g14≠x1_g15:=fun e9=>d14_15 rfl rfl (by rw [e9])
  clear hbs9 hos9 hc f0 f1 f2 f3 f4 f5 f6 f7 f8 f9 f10 f11 f12 f13 f14 f15 f16 f17 d14_15 g13_6 g16_14 g16_6 g17_15 g17_13 g17_6
  clear q6m q13m hm14 hm15 hg14 hg15
  have hz1:=hsz9
  clear hsz9 hS9z hS9 hC9 hsW9
  have Qx1_6:=hide qx1_6
  clear qx1_6
  have Qx1_13:=hide qx1_13
  clear qx1_13
  go_wp2_with fail
  refine wp_region_any (by kernel_rfl) ?_
  change wpAny _ _ _ _ _ _ _ (World.drew _)
  have hS9:=hS.drew
  have hsW9:(World.drew Wq1).heap.size = Wq1.heap.size:=by first|rfl|simp
  generalize World.drew Wq1 = Wd at hS9 hsW9 ⊢
  obtain ⟨S9,hS9z⟩:∃ x,x = Wd.heap.size:=⟨_,rfl⟩
  have hC9:=Rc.start (bs:=[⟨x1_g15,#[.slice x1_A13 x1_N13 x1_C13],28⟩,⟨x1_g14,#[.slice x1_A6 x1_N6 x1_C6],28⟩,⟨w.heap.size+1,#[.bool false,.slice none 0 0,.slice none 0 0],35⟩,⟨w.heap.size,#[.bool s,.slice a1 n1 c1,.slice a2 n2 c2,.bool t,.slice a3 n3 c3,.slice a4 n4 c4],76⟩]) hS9 (by simp)
  rw [← hS9z] at hC9
  refine wpAny_inv (fun l act w'=>∃ σ,Prd2I w s t a1 a2 a3 a4 n1 n2 n3 n4 c1 c2 c3 c4 m1 d1 m2 d2 x1_A6 x1_N6 x1_C6 x1_M6 x1_A13 x1_N13 x1_C13 x1_M13 x1_E13 x1_g14 x1_g15 S9 l act w' σ) ?_ ?_ _ _ _ _ ?_ ?_
  ·intro l act w' i9 hI9 hi9 hl9
   have hin9:i9 < 13:=by
    by_cases h:i9 < 13
    ·exact h
    ·obtain ⟨⟨⟩,rfl,_⟩:=hI9
     rw [Array.getElem?_eq_none (by simp; omega)] at hl9; cases hl9
   have hcase:i9 = 0∨i9 = 1∨i9 = 2∨i9 = 3∨i9 = 4∨i9 = 5∨i9 = 6∨i9 = 7∨i9 = 8∨i9 = 9∨i9 = 10∨i9 = 11∨i9 = 12:=by omega
   clear hin9
   obtain ⟨⟨b0,b1,b2,b3,b4,b5,b6,b7,b8,b9,b10,b11,b12,v0,v1,v2,v3,v4,v5,v6,v7,v8,v9,v10,v11,A4,N4,C4,M4,E4,A9,N9,C9,M9,E9,A10,N10,C10,M10,E10,bs9,os9⟩,rfl,rfl,hR⟩:=hI9
   rcases hcase with rfl|rfl|rfl|rfl|rfl|rfl|rfl|rfl|rfl|rfl|rfl|rfl|rfl
   ·obtain rfl:b0 = false:=by simpa using hl9
    have hc:=hR.hc
    refine wpOp_step rfl fun K hK=>?_
    go_simp
    exact hK _ _ ⟨⟨_,_,_,_,_,_,_,_,_,_,_,_,_,_,_,_,_,_,_,_,_,_,_,_,_,A4,N4,C4,M4,E4,A9,N9,C9,M9,E9,A10,N10,C10,M10,E10,_,_⟩,rfl,rfl,{ hR with hc:=hc,f0:=(fun _=>rfl) }⟩
   ·obtain rfl:b1 = false:=by simpa using hl9
    obtain ⟨o9,ho9,hd9⟩:=(mem_ready.1 hi9).2
    cases ho9
    have e0:b0 = true:=hd9 ⟨0,.data⟩ (by simp) rfl
    subst e0
    have h9:=hR.f0 rfl
    subst h9
    have hc:=hR.hc
    refine wpOp_step rfl fun K hK=>?_
    go_simp
    exact hK _ _ ⟨⟨_,_,_,_,_,_,_,_,_,_,_,_,_,_,_,_,_,_,_,_,_,_,_,_,_,A4,N4,C4,M4,E4,A9,N9,C9,M9,E9,A10,N10,C10,M10,E10,_,_⟩,rfl,rfl,{ hR with hc:=hc,f1:=(fun _=>rfl) }⟩
   ·obtain rfl:b2 = false:=by simpa using hl9
    obtain ⟨o9,ho9,hd9⟩:=(mem_ready.1 hi9).2
    cases ho9
    have e1:b1 = true:=hd9 ⟨1,.data⟩ (by simp) rfl
    subst e1
    have h9:=hR.f1 rfl
    subst h9
    have hc:=hR.hc
    have c9_0:=hc.st.cellAt (hc.old ⟨w.heap.size,#[.bool s,.slice a1 n1 c1,.slice a2 n2 c2,.bool t,.slice a3 n3 c3,.slice a4 n4 c4],76⟩ (by simp)).1 1 (.slice a1 n1 c1) rfl
    simp only [] at c9_0
    refine wpOp_step rfl fun K hK=>?_
    go_simp
    exact hK _ _ ⟨⟨_,_,_,_,_,_,_,_,_,_,_,_,_,_,_,_,_,_,_,_,_,_,_,_,_,A4,N4,C4,M4,E4,A9,N9,C9,M9,E9,A10,N10,C10,M10,E10,_,_⟩,rfl,rfl,{ hR with hc:=hc,f2:=(fun _=>rfl) }⟩
   ·obtain rfl:b3 = false:=by simpa using hl9
    have hc:=hR.hc
    have c9_0:=hc.st.cellAt (hc.old ⟨x1_g14,#[.slice x1_A6 x1_N6 x1_C6],28⟩ (by simp)).1 0 (.slice x1_A6 x1_N6 x1_C6) rfl
    simp only [] at c9_0
    refine wpOp_step rfl fun K hK=>?_
    go_simp
    exact hK _ _ ⟨⟨_,_,_,_,_,_,_,_,_,_,_,_,_,_,_,_,_,_,_,_,_,_,_,_,_,A4,N4,C4,M4,E4,A9,N9,C9,M9,E9,A10,N10,C10,M10,E10,_,_⟩,rfl,rfl,{ hR with hc:=hc,f3:=(fun _=>rfl) }⟩
   ·obtain rfl:b4 = false:=by simpa using hl9
    obtain ⟨o9,ho9,hd9⟩:=(mem_ready.1 hi9).2
    cases ho9
    have e2:b2 = true:=hd9 ⟨2,.data⟩ (by simp) rfl
    have e3:b3 = true:=hd9 ⟨3,.data⟩ (by simp) rfl
    subst e2 e3
    have h9:=hR.f2 rfl
    subst h9
    have h9:=hR.f3 rfl
    subst h9
    have hc:=hR.hc
    obtain rfl:b9 = false:=by cases h:b9; rfl; exact Bool.noConfusion (hR.g9_4 h)
    obtain rfl:b10 = false:=by cases h:b10; rfl; exact Bool.noConfusion (hR.g10_9 h)
    simp only [cond_false] at hc
    have HR:=hide hR
    clear hR
    refine wpOp_step rfl fun K hK=>?_
    go_simp
    go_wp2_with fail
    refine (W_over hc.st c1 x1_C6 (hc.st.nm (a1,n1,m1) (by simp)) (hc.st.ow (x1_A6,x1_N6,x1_C6,x1_M6) (hc.oso _ (by simp))).num).mono ?_
    rintro en w9 ⟨a9,n9,c9,m9,e9,rfl,hs9,hz,hz9⟩
    have hR:=unhide HR
    exact hK _ _ ⟨⟨_,_,_,_,_,_,_,_,_,_,_,_,_,_,_,_,_,_,_,_,_,_,_,_,_,_,_,_,_,_,A9,N9,C9,M9,E9,A10,N10,C10,M10,E10,_,_⟩,rfl,rfl,{ hR with hc:=(hc.call hs9 hz9 (fun y hy=>List.mem_cons_of_mem _ hy)),f4:=(fun _=>⟨rfl,List.mem_cons_self ..,hz⟩),f9:=(fun h=>Bool.noConfusion (hR.g9_4 h)),f10:=(fun h=>Bool.noConfusion (hR.g10_4 h)),f12:=(fun h=>Bool.noConfusion (hR.g12_4 h)),g9_4:=(fun _=>rfl),g10_4:=(fun _=>rfl),g12_4:=(fun _=>rfl) }⟩
   ·obtain rfl:b5 = false:=by simpa using hl9
    have hc:=hR.hc
    refine wpOp_step rfl fun K hK=>?_
    go_simp
    exact hK _ _ ⟨⟨_,_,_,_,_,_,_,_,_,_,_,_,_,_,_,_,_,_,_,_,_,_,_,_,_,A4,N4,C4,M4,E4,A9,N9,C9,M9,E9,A10,N10,C10,M10,E10,_,_⟩,rfl,rfl,{ hR with hc:=hc,f5:=(fun _=>rfl) }⟩
   ·obtain rfl:b6 = false:=by simpa using hl9
    obtain ⟨o9,ho9,hd9⟩:=(mem_ready.1 hi9).2
    cases ho9
    have e5:b5 = true:=hd9 ⟨5,.data⟩ (by simp) rfl
    subst e5
    have h9:=hR.f5 rfl
    subst h9
    have hc:=hR.hc
    refine wpOp_step rfl fun K hK=>?_
    go_simp
    exact hK _ _ ⟨⟨_,_,_,_,_,_,_,_,_,_,_,_,_,_,_,_,_,_,_,_,_,_,_,_,_,A4,N4,C4,M4,E4,A9,N9,C9,M9,E9,A10,N10,C10,M10,E10,_,_⟩,rfl,rfl,{ hR with hc:=hc,f6:=(fun _=>rfl) }⟩
   ·obtain rfl:b7 = false:=by simpa using hl9
    obtain ⟨o9,ho9,hd9⟩:=(mem_ready.1 hi9).2
    cases ho9
    have e6:b6 = true:=hd9 ⟨6,.data⟩ (by simp) rfl
    subst e6
    have h9:=hR.f6 rfl
    subst h9
    have hc:=hR.hc
    have c9_0:=hc.st.cellAt (hc.old ⟨w.heap.size,#[.bool s,.slice a1 n1 c1,.slice a2 n2 c2,.bool t,.slice a3 n3 c3,.slice a4 n4 c4],76⟩ (by simp)).1 4 (.slice a3 n3 c3) rfl
    simp only [] at c9_0
    refine wpOp_step rfl fun K hK=>?_
    go_simp
    exact hK _ _ ⟨⟨_,_,_,_,_,_,_,_,_,_,_,_,_,_,_,_,_,_,_,_,_,_,_,_,_,A4,N4,C4,M4,E4,A9,N9,C9,M9,E9,A10,N10,C10,M10,E10,_,_⟩,rfl,rfl,{ hR with hc:=hc,f7:=(fun _=>rfl) }⟩
   ·obtain rfl:b8 = false:=by simpa using hl9
    have hc:=hR.hc
    have c9_0:=hc.st.cellAt (hc.old ⟨x1_g15,#[.slice x1_A13 x1_N13 x1_C13],28⟩ (by simp)).1 0 (.slice x1_A13 x1_N13 x1_C13) rfl
    simp only [] at c9_0
    refine wpOp_step rfl fun K hK=>?_
    go_simp
    exact hK _ _ ⟨⟨_,_,_,_,_,_,_,_,_,_,_,_,_,_,_,_,_,_,_,_,_,_,_,_,_,A4,N4,C4,M4,E4,A9,N9,C9,M9,E9,A10,N10,C10,M10,E10,_,_⟩,rfl,rfl,{ hR with hc:=hc,f8:=(fun _=>rfl) }⟩
   ·obtain rfl:b9 = false:=by simpa using hl9
    obtain ⟨o9,ho9,hd9⟩:=(mem_ready.1 hi9).2
    cases ho9
    have e7:b7 = true:=hd9 ⟨7,.data⟩ (by simp) rfl
    have e8:b8 = true:=hd9 ⟨8,.data⟩ (by simp) rfl
    have e4:b4 = true:=hd9 ⟨4,.chain⟩ (by simp) rfl
    subst e7 e8 e4
    have h9:=hR.f7 rfl
    subst h9
    have h9:=hR.f8 rfl
    subst h9
    have q4:=hR.f4 rfl
    obtain ⟨h9,q4m,q4z⟩:=q4
    subst h9
    have hc:=hR.hc
    obtain rfl:b10 = false:=by cases h:b10; rfl; exact Bool.noConfusion (hR.g10_9 h)
    simp only [cond_true,cond_false] at hc
    have HR:=hide hR
    clear hR
    refine wpOp_step rfl fun K hK=>?_
    go_simp
    go_wp2_with fail
    refine (W_over hc.st c3 x1_C13 (hc.st.nm (a3,n3,m2) (by simp)) (hc.st.ow (x1_A13,x1_N13,x1_C13,x1_M13) (hc.oso _ (by simp))).num).mono ?_
    rintro en w9 ⟨a9,n9,c9,m9,e9,rfl,hs9,hz,hz9⟩
    have hR:=unhide HR
    exact hK _ _ ⟨⟨_,_,_,_,_,_,_,_,_,_,_,_,_,_,_,_,_,_,_,_,_,_,_,_,_,A4,N4,C4,M4,E4,_,_,_,_,_,A10,N10,C10,M10,E10,_,_⟩,rfl,rfl,{ hR with hc:=(hc.call hs9 hz9 (fun y hy=>List.mem_cons_of_mem _ hy)),f4:=(fun h=>⟨(hR.f4 h).1,List.mem_cons_of_mem _ (hR.f4 h).2.1,(hR.f4 h).2.2⟩),f9:=(fun _=>⟨rfl,List.mem_cons_self ..,hz⟩),f10:=(fun h=>Bool.noConfusion (hR.g10_9 h)),f12:=(fun h=>Bool.noConfusion (hR.g12_9 h)),g9_4:=(fun _=>rfl),g10_9:=(fun _=>rfl),g12_9:=(fun _=>rfl) }⟩
   ·obtain rfl:b10 = false:=by simpa using hl9
    obtain ⟨o9,ho9,hd9⟩:=(mem_ready.1 hi9).2
    cases ho9
    have e4:b4 = true:=hd9 ⟨4,.data⟩ (by simp) rfl
    have e9:b9 = true:=hd9 ⟨9,.data⟩ (by simp) rfl
    subst e4 e9
    have q4:=hR.f4 rfl
    obtain ⟨h9,q4m,q4z⟩:=q4
    subst h9
    have q9:=hR.f9 rfl
    obtain ⟨h9,q9m,q9z⟩:=q9
    subst h9
    have hc:=hR.hc
    simp only [cond_true,cond_false] at hc
    have HR:=hide hR
    clear hR
    refine wpOp_step rfl fun K hK=>?_
    go_simp
    go_wp2_with fail
    refine (W_mul hc.st C4 C9 (hc.st.ow _ q4m).num (hc.st.ow _ q9m).num).mono ?_
    rintro en w9 ⟨a9,n9,c9,m9,e9,rfl,hs9,hz,hz9⟩
    have hR:=unhide HR
    exact hK _ _ ⟨⟨_,_,_,_,_,_,_,_,_,_,_,_,_,_,_,_,_,_,_,_,_,_,_,_,_,A4,N4,C4,M4,E4,A9,N9,C9,M9,E9,_,_,_,_,_,_,_⟩,rfl,rfl,{ hR with hc:=(hc.call hs9 hz9 (fun y hy=>List.mem_cons_of_mem _ hy)),f4:=(fun h=>⟨(hR.f4 h).1,List.mem_cons_of_mem _ (hR.f4 h).2.1,(hR.f4 h).2.2⟩),f9:=(fun h=>⟨(hR.f9 h).1,List.mem_cons_of_mem _ (hR.f9 h).2.1,(hR.f9 h).2.2⟩),f10:=(fun _=>⟨rfl,List.mem_cons_self ..,hz⟩),f12:=(fun h=>Bool.noConfusion (hR.g12_10 h)),g10_4:=(fun _=>rfl),g10_9:=(fun _=>rfl),g12_10:=(fun _=>rfl) }⟩
   ·obtain rfl:b11 = false:=by simpa using hl9
    have hc:=hR.hc
    refine wpOp_step rfl fun K hK=>?_
    go_simp
    exact hK _ _ ⟨⟨_,_,_,_,_,_,_,_,_,_,_,_,_,_,_,_,_,_,_,_,_,_,_,_,_,A4,N4,C4,M4,E4,A9,N9,C9,M9,E9,A10,N10,C10,M10,E10,_,_⟩,rfl,rfl,{ hR with hc:=(hc.alloc #[.slice none 0 0] 28),f11:=(fun _=>AlV.self rfl hc.sz),f12:=(fun h=>Bool.noConfusion (hR.g12_11 h)),g12_11:=(fun _=>rfl) }⟩
   ·obtain rfl:b12 = false:=by simpa using hl9
    obtain ⟨o9,ho9,hd9⟩:=(mem_ready.1 hi9).2
    cases ho9
    have e10:b10 = true:=hd9 ⟨10,.data⟩ (by simp) rfl
    have e11:b11 = true:=hd9 ⟨11,.data⟩ (by simp) rfl
    subst e10 e11
    have q10:=hR.f10 rfl
    obtain ⟨h9,q10m,q10z⟩:=q10
    subst h9
    have hc:=hR.hc
    obtain ⟨g9,s9,h9,hg9,hm9⟩:=hR.f11 rfl
    subst h9
    have fz9:=hc.st.frozen hm9 0
    have cz9:=hc.st.cellAt hm9 0 s9 rfl
    simp only [] at fz9 cz9
    have hn9:∀ x,x∈([⟨x1_g15,#[.slice x1_A13 x1_N13 x1_C13],28⟩,⟨x1_g14,#[.slice x1_A6 x1_N6 x1_C6],28⟩,⟨w.heap.size+1,#[.bool false,.slice none 0 0,.slice none 0 0],35⟩,⟨w.heap.size,#[.bool s,.slice a1 n1 c1,.slice a2 n2 c2,.bool t,.slice a3 n3 c3,.slice a4 n4 c4],76⟩]:List En)→x.b≠g9:=fun x hx=>by have:=(hc.old x hx).2; omega
    refine wpOp_step rfl fun K hK=>?_
    go_simp
    exact hK _ _ ⟨⟨_,_,_,_,_,_,_,_,_,_,_,_,_,_,_,_,_,_,_,_,_,_,_,_,_,A4,N4,C4,M4,E4,A9,N9,C9,M9,E9,A10,N10,C10,M10,E10,_,_⟩,rfl,rfl,{ hR with hc:=(hc.store hm9 (by have:=hc.w0s; omega) hn9 0 (.slice A10 N10 C10) (by simp)),f11:=(fun _=>AlV.self rfl hg9),f12:=(fun _=>⟨g9,_,rfl,hg9,rfl,List.mem_cons_self ..⟩),g12_11:=(fun _=>rfl),g12_10:=(fun _=>rfl),g12_4:=(fun _=>hR.g10_4 rfl),g12_9:=(fun _=>hR.g10_9 rfl) }⟩
  ·rintro l act Wq2 ⟨⟨b0,b1,b2,b3,b4,b5,b6,b7,b8,b9,b10,b11,b12,v0,v1,v2,v3,v4,v5,v6,v7,v8,v9,v10,v11,x2_A4,x2_N4,x2_C4,x2_M4,x2_E4,x2_A9,x2_N9,x2_C9,x2_M9,x2_E9,x2_A10,x2_N10,x2_C10,x2_M10,x2_E10,bs9,os9⟩,rfl,rfl,hR⟩ hr9
   obtain ⟨hc,f0,f1,f2,f3,f4,f5,f6,f7,f8,f9,f10,f11,f12,g9_4,g10_4,g10_9,g12_11,g12_10,g12_4,g12_9⟩:=hR
   have eall:=all_done hr9 (by kernel_rfl) rfl
   obtain rfl:b0 = true:=eall 0 (by decide)
   obtain rfl:b1 = true:=eall 1 (by decide)
   obtain rfl:b2 = true:=eall 2 (by decide)
   obtain rfl:b3 = true:=eall 3 (by decide)
   obtain rfl:b4 = true:=eall 4 (by decide)
   obtain rfl:b5 = true:=eall 5 (by decide)
   obtain rfl:b6 = true:=eall 6 (by decide)
   obtain rfl:b7 = true:=eall 7 (by decide)
   obtain rfl:b8 = true:=eall 8 (by decide)
   obtain rfl:b9 = true:=eall 9 (by decide)
   obtain rfl:b10 = true:=eall 10 (by decide)
   obtain rfl:b11 = true:=eall 11 (by decide)
   obtain rfl:b12 = true:=eall 12 (by decide)
   clear hr9 eall
   have h9:=f0 rfl
   subst h9
   have h9:=f1 rfl
   subst h9
   have h9:=f2 rfl
   subst h9
   have h9:=f3 rfl
   subst h9
   obtain ⟨h9,q4m,qx2_4⟩:=f4 rfl
   subst h9
   have h9:=f5 rfl
   subst h9
   have h9:=f6 rfl
   subst h9
   have h9:=f7 rfl
   subst h9
   have h9:=f8 rfl
   subst h9
   obtain ⟨h9,q9m,qx2_9⟩:=f9 rfl
   subst h9
   obtain ⟨h9,q10m,qx2_10⟩:=f10 rfl
   subst h9
   obtain ⟨x2_g11,s9,h9,hg11,hs9,hm11⟩:=f12 rfl
   subst h9
   obtain rfl:s9 = .slice x2_A10 x2_N10 x2_C10:=by simpa using hs9.symm
   clear hs9
   simp only [cond_true] at hc
   have hbs9:∀ x,x∈([⟨x2_g11,#[.slice x2_A10 x2_N10 x2_C10],28⟩,⟨x1_g15,#[.slice x1_A13 x1_N13 x1_C13],28⟩,⟨x1_g14,#[.slice x1_A6 x1_N6 x1_C6],28⟩,⟨w.heap.size+1,#[.bool false,.slice none 0 0,.slice none 0 0],35⟩,⟨w.heap.size,#[.bool s,.slice a1 n1 c1,.slice a2 n2 c2,.bool t,.slice a3 n3 c3,.slice a4 n4 c4],76⟩]:List En)→x∈bs9:=by
    intro x hx
    rcases List.mem_cons.1 hx with rfl|hx
    ·exact hm11
    rcases List.mem_cons.1 hx with rfl|hx
    ·exact (hc.old _ (by simp)).1
    rcases List.mem_cons.1 hx with rfl|hx
    ·exact (hc.old _ (by simp)).1
    rcases List.mem_cons.1 hx with rfl|hx
    ·exact (hc.old _ (by simp)).1
    rcases List.mem_cons.1 hx with rfl|hx
    ·exact (hc.old _ (by simp)).1
    exact absurd hx List.not_mem_nil
   have hos9:∀ x,x∈([(x2_A4,x2_N4,x2_C4,x2_M4),(x2_A9,x2_N9,x2_C9,x2_M9),(x2_A10,x2_N10,x2_C10,x2_M10),(x1_A6,x1_N6,x1_C6,x1_M6),(x1_A13,x1_N13,x1_C13,x1_M13)]:Os)→x∈os9:=by
    intro x hx
    rcases List.mem_cons.1 hx with rfl|hx
    ·exact q4m
    rcases List.mem_cons.1 hx with rfl|hx
    ·exact q9m
    rcases List.mem_cons.1 hx with rfl|hx
    ·exact q10m
    rcases List.mem_cons.1 hx with rfl|hx
    ·exact hc.oso _ (by simp)
    rcases List.mem_cons.1 hx with rfl|hx
    ·exact hc.oso _ (by simp)
    exact absurd hx List.not_mem_nil
   have hS:=hc.st.sub hbs9 (fun x hx=>hx) hos9
   have hsz9:=hc.sz
   rw [hS9z,hsW9] at hsz9
   have hlx2_g11:=hg11
   rw [hS9z,hsW9] at hlx2_g11
   have hux2_g11:=block_lt (hc.st.bx _ hm11).1
   simp only [] at hux2_g11
   clear hbs9 hos9 hc f0 f1 f2 f3 f4 f5 f6 f7 f8 f9 f10 f11 f12 g9_4 g10_4 g10_9 g12_11 g12_10 g12_4 g12_9
   clear q4m q9m q10m hm11 hg11
   have hz2:=hsz9
   clear hsz9 hS9z hS9 hC9 hsW9
   have Qx2_4:=hide qx2_4
   clear qx2_4
   have Qx2_9:=hide qx2_9
   clear qx2_9
   have Qx2_10:=hide qx2_10
   clear qx2_10
   go_wp2_with fail
   replace hS:=hS.sub (bs':=[⟨x2_g11,#[.slice x2_A10 x2_N10 x2_C10],28⟩,⟨x1_g15,#[.slice x1_A13 x1_N13 x1_C13],28⟩,⟨x1_g14,#[.slice x1_A6 x1_N6 x1_C6],28⟩,⟨w.heap.size+1,#[.bool false,.slice none 0 0,.slice none 0 0],35⟩,⟨w.heap.size,#[.bool s,.slice a1 n1 c1,.slice a2 n2 c2,.bool t,.slice a3 n3 c3,.slice a4 n4 c4],76⟩]) (ms':=[(a4,n4,d2),(a3,n3,m2),(a2,n2,d1),(a1,n1,m1)]) (os':=[(x2_A10,x2_N10,x2_C10,x2_M10),(x1_A6,x1_N6,x1_C6,x1_M6),(x1_A13,x1_N13,x1_C13,x1_M13)]) (by intro x hx; rcases List.mem_cons.1 hx with rfl|hx; (simp); rcases List.mem_cons.1 hx with rfl|hx; (simp); rcases List.mem_cons.1 hx with rfl|hx; (simp); rcases List.mem_cons.1 hx with rfl|hx; (simp); rcases List.mem_cons.1 hx with rfl|hx; (simp); exact absurd hx List.not_mem_nil) (by intro x hx; rcases List.mem_cons.1 hx with rfl|hx; (simp); rcases List.mem_cons.1 hx with rfl|hx; (simp); rcases List.mem_cons.1 hx with rfl|hx; (simp); rcases List.mem_cons.1 hx with rfl|hx; (simp); exact absurd hx List.not_mem_nil) (by intro x hx; rcases List.mem_cons.1 hx with rfl|hx; (simp); rcases List.mem_cons.1 hx with rfl|hx; (simp); rcases List.mem_cons.1 hx with rfl|hx; (simp); exact absurd hx List.not_mem_nil)
   refine wp_region_any (by kernel_rfl) ?_
   change wpAny _ _ _ _ _ _ _ (World.drew _)
   have hS9:=hS.drew
   have hsW9:(World.drew Wq2).heap.size = Wq2.heap.size:=by first|rfl|simp
   generalize World.drew Wq2 = Wd at hS9 hsW9 ⊢
   obtain ⟨S9,hS9z⟩:∃ x,x = Wd.heap.size:=⟨_,rfl⟩
   have hC9:=Rc.start (bs:=[⟨x2_g11,#[.slice x2_A10 x2_N10 x2_C10],28⟩,⟨x1_g15,#[.slice x1_A13 x1_N13 x1_C13],28⟩,⟨x1_g14,#[.slice x1_A6 x1_N6 x1_C6],28⟩,⟨w.heap.size+1,#[.bool false,.slice none 0 0,.slice none 0 0],35⟩,⟨w.heap.size,#[.bool s,.slice a1 n1 c1,.slice a2 n2 c2,.bool t,.slice a3 n3 c3,.slice a4 n4 c4],76⟩]) hS9 (by simp)
   rw [← hS9z] at hC9
   refine wpAny_inv (fun l act w'=>∃ σ,Prd3I w s t a1 a2 a3 a4 n1 n2 n3 n4 c1 c2 c3 c4 m1 d1 m2 d2 x1_A6 x1_N6 x1_C6 x1_M6 x1_A13 x1_N13 x1_C13 x1_M13 x1_g14 x1_g15 x2_A4 x2_N4 x2_C4 x2_A9 x2_N9 x2_C9 x2_A10 x2_N10 x2_C10 x2_M10 x2_E10 x2_g11 S9 l act w' σ) ?_ ?_ _ _ _ _ ?_ ?_
   ·intro l act w' i9 hI9 hi9 hl9
    have hin9:i9 < 13:=by
     by_cases h:i9 < 13
     ·exact h
     ·obtain ⟨⟨⟩,rfl,_⟩:=hI9
      rw [Array.getElem?_eq_none (by simp; omega)] at hl9; cases hl9
    have hcase:i9 = 0∨i9 = 1∨i9 = 2∨i9 = 3∨i9 = 4∨i9 = 5∨i9 = 6∨i9 = 7∨i9 = 8∨i9 = 9∨i9 = 10∨i9 = 11∨i9 = 12:=by omega
    clear hin9
    obtain ⟨⟨b0,b1,b2,b3,b4,b5,b6,b7,b8,b9,b10,b11,b12,v0,v1,v2,v3,v4,v5,v6,v7,v8,v9,v10,v11,A4,N4,C4,M4,E4,A9,N9,C9,M9,E9,A10,N10,C10,M10,E10,bs9,os9⟩,rfl,rfl,hR⟩:=hI9
    rcases hcase with rfl|rfl|rfl|rfl|rfl|rfl|rfl|rfl|rfl|rfl|rfl|rfl|rfl
    ·obtain rfl:b0 = false:=by simpa using hl9
     have hc:=hR.hc
     refine wpOp_step rfl fun K hK=>?_
     go_simp
     exact hK _ _ ⟨⟨_,_,_,_,_,_,_,_,_,_,_,_,_,_,_,_,_,_,_,_,_,_,_,_,_,A4,N4,C4,M4,E4,A9,N9,C9,M9,E9,A10,N10,C10,M10,E10,_,_⟩,rfl,rfl,{ hR with hc:=hc,f0:=(fun _=>rfl) }⟩
    ·obtain rfl:b1 = false:=by simpa using hl9
     obtain ⟨o9,ho9,hd9⟩:=(mem_ready.1 hi9).2
     cases ho9
     have e0:b0 = true:=hd9 ⟨0,.data⟩ (by simp) rfl
     subst e0
     have h9:=hR.f0 rfl
     subst h9
     have hc:=hR.hc
     refine wpOp_step rfl fun K hK=>?_
     go_simp
     exact hK _ _ ⟨⟨_,_,_,_,_,_,_,_,_,_,_,_,_,_,_,_,_,_,_,_,_,_,_,_,_,A4,N4,C4,M4,E4,A9,N9,C9,M9,E9,A10,N10,C10,M10,E10,_,_⟩,rfl,rfl,{ hR with hc:=hc,f1:=(fun _=>rfl) }⟩
    ·obtain rfl:b2 = false:=by simpa using hl9
     obtain ⟨o9,ho9,hd9⟩:=(mem_ready.1 hi9).2
     cases ho9
     have e1:b1 = true:=hd9 ⟨1,.data⟩ (by simp) rfl
     subst e1
     have h9:=hR.f1 rfl
     subst h9
     have hc:=hR.hc
     have c9_0:=hc.st.cellAt (hc.old ⟨w.heap.size,#[.bool s,.slice a1 n1 c1,.slice a2 n2 c2,.bool t,.slice a3 n3 c3,.slice a4 n4 c4],76⟩ (by simp)).1 2 (.slice a2 n2 c2) rfl
     simp only [] at c9_0
     refine wpOp_step rfl fun K hK=>?_
     go_simp
     exact hK _ _ ⟨⟨_,_,_,_,_,_,_,_,_,_,_,_,_,_,_,_,_,_,_,_,_,_,_,_,_,A4,N4,C4,M4,E4,A9,N9,C9,M9,E9,A10,N10,C10,M10,E10,_,_⟩,rfl,rfl,{ hR with hc:=hc,f2:=(fun _=>rfl) }⟩
    ·obtain rfl:b3 = false:=by simpa using hl9
     have hc:=hR.hc
     have c9_0:=hc.st.cellAt (hc.old ⟨x1_g15,#[.slice x1_A13 x1_N13 x1_C13],28⟩ (by simp)).1 0 (.slice x1_A13 x1_N13 x1_C13) rfl
     simp only [] at c9_0
     refine wpOp_step rfl fun K hK=>?_
     go_simp
     exact hK _ _ ⟨⟨_,_,_,_,_,_,_,_,_,_,_,_,_,_,_,_,_,_,_,_,_,_,_,_,_,A4,N4,C4,M4,E4,A9,N9,C9,M9,E9,A10,N10,C10,M10,E10,_,_⟩,rfl,rfl,{ hR with hc:=hc,f3:=(fun _=>rfl) }⟩
    ·obtain rfl:b4 = false:=by simpa using hl9
     obtain ⟨o9,ho9,hd9⟩:=(mem_ready.1 hi9).2
     cases ho9
     have e2:b2 = true:=hd9 ⟨2,.data⟩ (by simp) rfl
     have e3:b3 = true:=hd9 ⟨3,.data⟩ (by simp) rfl
     subst e2 e3
     have h9:=hR.f2 rfl
     subst h9
     have h9:=hR.f3 rfl
     subst h9
     have hc:=hR.hc
     obtain rfl:b9 = false:=by cases h:b9; rfl; exact Bool.noConfusion (hR.g9_4 h)
     obtain rfl:b10 = false:=by cases h:b10; rfl; exact Bool.noConfusion (hR.g10_9 h)
     simp only [cond_false] at hc
     have HR:=hide hR
     clear hR
     refine wpOp_step rfl fun K hK=>?_
     go_simp
     go_wp2_with fail
     refine (W_over hc.st c2 x1_C13 (hc.st.nm (a2,n2,d1) (by simp)) (hc.st.ow (x1_A13,x1_N13,x1_C13,x1_M13) (hc.oso _ (by simp))).num).mono ?_
     rintro en w9 ⟨a9,n9,c9,m9,e9,rfl,hs9,hz,hz9⟩
     have hR:=unhide HR
     exact hK _ _ ⟨⟨_,_,_,_,_,_,_,_,_,_,_,_,_,_,_,_,_,_,_,_,_,_,_,_,_,_,_,_,_,_,A9,N9,C9,M9,E9,A10,N10,C10,M10,E10,_,_⟩,rfl,rfl,{ hR with hc:=(hc.call hs9 hz9 (fun y hy=>List.mem_cons_of_mem _ hy)),f4:=(fun _=>⟨rfl,List.mem_cons_self ..,hz⟩),f9:=(fun h=>Bool.noConfusion (hR.g9_4 h)),f10:=(fun h=>Bool.noConfusion (hR.g10_4 h)),f12:=(fun h=>Bool.noConfusion (hR.g12_4 h)),g9_4:=(fun _=>rfl),g10_4:=(fun _=>rfl),g12_4:=(fun _=>rfl) }⟩
    ·obtain rfl:b5 = false:=by simpa using hl9
     have hc:=hR.hc
     refine wpOp_step rfl fun K hK=>?_
     go_simp
     exact hK _ _ ⟨⟨_,_,_,_,_,_,_,_,_,_,_,_,_,_,_,_,_,_,_,_,_,_,_,_,_,A4,N4,C4,M4,E4,A9,N9,C9,M9,E9,A10,N10,C10,M10,E10,_,_⟩,rfl,rfl,{ hR with hc:=hc,f5:=(fun _=>rfl) }⟩
    ·obtain rfl:b6 = false:=by simpa using hl9
     obtain ⟨o9,ho9,hd9⟩:=(mem_ready.1 hi9).2
     cases ho9
     have e5:b5 = true:=hd9 ⟨5,.data⟩ (by simp) rfl
     subst e5
     have h9:=hR.f5 rfl
     subst h9
     have hc:=hR.hc
     refine wpOp_step rfl fun K hK=>?_
     go_simp
     exact hK _ _ ⟨⟨_,_,_,_,_,_,_,_,_,_,_,_,_,_,_,_,_,_,_,_,_,_,_,_,_,A4,N4,C4,M4,E4,A9,N9,C9,M9,E9,A10,N10,C10,M10,E10,_,_⟩,rfl,rfl,{ hR with hc:=hc,f6:=(fun _=>rfl) }⟩
    ·obtain rfl:b7 = false:=by simpa using hl9
     obtain ⟨o9,ho9,hd9⟩:=(mem_ready.1 hi9).2
     cases ho9
     have e6:b6 = true:=hd9 ⟨6,.data⟩ (by simp) rfl
     subst e6
     have h9:=hR.f6 rfl
     subst h9
     have hc:=hR.hc
     have c9_0:=hc.st.cellAt (hc.old ⟨w.heap.size,#[.bool s,.slice a1 n1 c1,.slice a2 n2 c2,.bool t,.slice a3 n3 c3,.slice a4 n4 c4],76⟩ (by simp)).1 5 (.slice a4 n4 c4) rfl
     simp only [] at c9_0
     refine wpOp_step rfl fun K hK=>?_
     go_simp
     exact hK _ _ ⟨⟨_,_,_,_,_,_,_,_,_,_,_,_,_,_,_,_,_,_,_,_,_,_,_,_,_,A4,N4,C4,M4,E4,A9,N9,C9,M9,E9,A10,N10,C10,M10,E10,_,_⟩,rfl,rfl,{ hR with hc:=hc,f7:=(fun _=>rfl) }⟩
    ·obtain rfl:b8 = false:=by simpa using hl9
     have hc:=hR.hc
     have c9_0:=hc.st.cellAt (hc.old ⟨x1_g14,#[.slice x1_A6 x1_N6 x1_C6],28⟩ (by simp)).1 0 (.slice x1_A6 x1_N6 x1_C6) rfl
     simp only [] at c9_0
     refine wpOp_step rfl fun K hK=>?_
     go_simp
     exact hK _ _ ⟨⟨_,_,_,_,_,_,_,_,_,_,_,_,_,_,_,_,_,_,_,_,_,_,_,_,_,A4,N4,C4,M4,E4,A9,N9,C9,M9,E9,A10,N10,C10,M10,E10,_,_⟩,rfl,rfl,{ hR with hc:=hc,f8:=(fun _=>rfl) }⟩
    ·obtain rfl:b9 = false:=by simpa using hl9
     obtain ⟨o9,ho9,hd9⟩:=(mem_ready.1 hi9).2
     cases ho9
     have e7:b7 = true:=hd9 ⟨7,.data⟩ (by simp) rfl
     have e8:b8 = true:=hd9 ⟨8,.data⟩ (by simp) rfl
     have e4:b4 = true:=hd9 ⟨4,.chain⟩ (by simp) rfl
     subst e7 e8 e4
     have h9:=hR.f7 rfl
     subst h9
     have h9:=hR.f8 rfl
     subst h9
     have q4:=hR.f4 rfl
     obtain ⟨h9,q4m,q4z⟩:=q4
     subst h9
     have hc:=hR.hc
     obtain rfl:b10 = false:=by cases h:b10; rfl; exact Bool.noConfusion (hR.g10_9 h)
     simp only [cond_true,cond_false] at hc
     have HR:=hide hR
     clear hR
     refine wpOp_step rfl fun K hK=>?_
     go_simp
     go_wp2_with fail
     refine (W_over hc.st c4 x1_C6 (hc.st.nm (a4,n4,d2) (by simp)) (hc.st.ow (x1_A6,x1_N6,x1_C6,x1_M6) (hc.oso _ (by simp))).num).mono ?_
     rintro en w9 ⟨a9,n9,c9,m9,e9,rfl,hs9,hz,hz9⟩
     have hR:=unhide HR
     exact hK _ _ ⟨⟨_,_,_,_,_,_,_,_,_,_,_,_,_,_,_,_,_,_,_,_,_,_,_,_,_,A4,N4,C4,M4,E4,_,_,_,_,_,A10,N10,C10,M10,E10,_,_⟩,rfl,rfl,{ hR with hc:=(hc.call hs9 hz9 (fun y hy=>List.mem_cons_of_mem _ hy)),f4:=(fun h=>⟨(hR.f4 h).1,List.mem_cons_of_mem _ (hR.f4 h).2.1,(hR.f4 h).2.2⟩),f9:=(fun _=>⟨rfl,List.mem_cons_self ..,hz⟩),f10:=(fun h=>Bool.noConfusion (hR.g10_9 h)),f12:=(fun h=>Bool.noConfusion (hR.g12_9 h)),g9_4:=(fun _=>rfl),g10_9:=(fun _=>rfl),g12_9:=(fun _=>rfl) }⟩
    ·obtain rfl:b10 = false:=by simpa using hl9
     obtain ⟨o9,ho9,hd9⟩:=(mem_ready.1 hi9).2
     cases ho9
     have e4:b4 = true:=hd9 ⟨4,.data⟩ (by simp) rfl
     have e9:b9 = true:=hd9 ⟨9,.data⟩ (by simp) rfl
     subst e4 e9
     have q4:=hR.f4 rfl
     obtain ⟨h9,q4m,q4z⟩:=q4
     subst h9
     have q9:=hR.f9 rfl
     obtain ⟨h9,q9m,q9z⟩:=q9
     subst h9
     have hc:=hR.hc
     simp only [cond_true,cond_false] at hc
     have HR:=hide hR
     clear hR
     refine wpOp_step rfl fun K hK=>?_
     go_simp
     go_wp2_with fail
     refine (W_mul hc.st C4 C9 (hc.st.ow _ q4m).num (hc.st.ow _ q9m).num).mono ?_
     rintro en w9 ⟨a9,n9,c9,m9,e9,rfl,hs9,hz,hz9⟩
     have hR:=unhide HR
     exact hK _ _ ⟨⟨_,_,_,_,_,_,_,_,_,_,_,_,_,_,_,_,_,_,_,_,_,_,_,_,_,A4,N4,C4,M4,E4,A9,N9,C9,M9,E9,_,_,_,_,_,_,_⟩,rfl,rfl,{ hR with hc:=(hc.call hs9 hz9 (fun y hy=>List.mem_cons_of_mem _ hy)),f4:=(fun h=>⟨(hR.f4 h).1,List.mem_cons_of_mem _ (hR.f4 h).2.1,(hR.f4 h).2.2⟩),f9:=(fun h=>⟨(hR.f9 h).1,List.mem_cons_of_mem _ (hR.f9 h).2.1,(hR.f9 h).2.2⟩),f10:=(fun _=>⟨rfl,List.mem_cons_self ..,hz⟩),f12:=(fun h=>Bool.noConfusion (hR.g12_10 h)),g10_4:=(fun _=>rfl),g10_9:=(fun _=>rfl),g12_10:=(fun _=>rfl) }⟩
    ·obtain rfl:b11 = false:=by simpa using hl9
     have hc:=hR.hc
     refine wpOp_step rfl fun K hK=>?_
     go_simp
     exact hK _ _ ⟨⟨_,_,_,_,_,_,_,_,_,_,_,_,_,_,_,_,_,_,_,_,_,_,_,_,_,A4,N4,C4,M4,E4,A9,N9,C9,M9,E9,A10,N10,C10,M10,E10,_,_⟩,rfl,rfl,{ hR with hc:=(hc.alloc #[.slice none 0 0] 28),f11:=(fun _=>AlV.self rfl hc.sz),f12:=(fun h=>Bool.noConfusion (hR.g12_11 h)),g12_11:=(fun _=>rfl) }⟩
    ·obtain rfl:b12 = false:=by simpa using hl9
     obtain ⟨o9,ho9,hd9⟩:=(mem_ready.1 hi9).2
     cases ho9
     have e10:b10 = true:=hd9 ⟨10,.data⟩ (by simp) rfl
     have e11:b11 = true:=hd9 ⟨11,.data⟩ (by simp) rfl
     subst e10 e11
     have q10:=hR.f10 rfl
     obtain ⟨h9,q10m,q10z⟩:=q10
     subst h9
     have hc:=hR.hc
     obtain ⟨g9,s9,h9,hg9,hm9⟩:=hR.f11 rfl
     subst h9
     have fz9:=hc.st.frozen hm9 0
     have cz9:=hc.st.cellAt hm9 0 s9 rfl
     simp only [] at fz9 cz9
     have hn9:∀ x,x∈([⟨x2_g11,#[.slice x2_A10 x2_N10 x2_C10],28⟩,⟨x1_g15,#[.slice x1_A13 x1_N13 x1_C13],28⟩,⟨x1_g14,#[.slice x1_A6 x1_N6 x1_C6],28⟩,⟨w.heap.size+1,#[.bool false,.slice none 0 0,.slice none 0 0],35⟩,⟨w.heap.size,#[.bool s,.slice a1 n1 c1,.slice a2 n2 c2,.bool t,.slice a3 n3 c3,.slice a4 n4 c4],76⟩]:List En)→x.b≠g9:=fun x hx=>by have:=(hc.old x hx).2; omega
     refine wpOp_step rfl fun K hK=>?_
     go_simp
     exact hK _ _ ⟨⟨_,_,_,_,_,_,_,_,_,_,_,_,_,_,_,_,_,_,_,_,_,_,_,_,_,A4,N4,C4,M4,E4,A9,N9,C9,M9,E9,A10,N10,C10,M10,E10,_,_⟩,rfl,rfl,{ hR with hc:=(hc.store hm9 (by have:=hc.w0s; omega) hn9 0 (.slice A10 N10 C10) (by simp)),f11:=(fun _=>AlV.self rfl hg9),f12:=(fun _=>⟨g9,_,rfl,hg9,rfl,List.mem_cons_self ..⟩),g12_11:=(fun _=>rfl),g12_10:=(fun _=>rfl),g12_4:=(fun _=>hR.g10_4 rfl),g12_9:=(fun _=>hR.g10_9 rfl) }⟩
   ·rintro l act Wq3 ⟨⟨b0,b1,b2,b3,b4,b5,b6,b7,b8,b9,b10,b11,b12,v0,v1,v2,v3,v4,v5,v6,v7,v8,v9,v10,v11,x3_A4,x3_N4,x3_C4,x3_M4,x3_E4,x3_A9,x3_N9,x3_C9,x3_M9,x3_E9,x3_A10,x3_N10,x3_C10,x3_M10,x3_E10,bs9,os9⟩,rfl,rfl,hR⟩ hr9
    obtain ⟨hc,f0,f1,f2,f3,f4,f5,f6,f7,f8,f9,f10,f11,f12,g9_4,g10_4,g10_9,g12_11,g12_10,g12_4,g12_9⟩:=hR
    have eall:=all_done hr9 (by kernel_rfl) rfl
    obtain rfl:b0 = true:=eall 0 (by decide)
    obtain rfl:b1 = true:=eall 1 (by decide)
    obtain rfl:b2 = true:=eall 2 (by decide)
    obtain rfl:b3 = true:=eall 3 (by decide)
    obtain rfl:b4 = true:=eall 4 (by decide)
    obtain rfl:b5 = true:=eall 5 (by decide)
    obtain rfl:b6 = true:=eall 6 (by decide)
    obtain rfl:b7 = true:=eall 7 (by decide)
    obtain rfl:b8 = true:=eall 8 (by decide)
    obtain rfl:b9 = true:=eall 9 (by decide)
    obtain rfl:b10 = true:=eall 10 (by decide)
    obtain rfl:b11 = true:=eall 11 (by decide)
    obtain rfl:b12 = true:=eall 12 (by decide)
    clear hr9 eall
    have h9:=f0 rfl
    subst h9
    have h9:=f1 rfl
    subst h9
    have h9:=f2 rfl
    subst h9
    have h9:=f3 rfl
    subst h9
    obtain ⟨h9,q4m,qx3_4⟩:=f4 rfl
    subst h9
    have h9:=f5 rfl
    subst h9
    have h9:=f6 rfl
    subst h9
    have h9:=f7 rfl
    subst h9
    have h9:=f8 rfl
    subst h9
    obtain ⟨h9,q9m,qx3_9⟩:=f9 rfl
    subst h9
    obtain ⟨h9,q10m,qx3_10⟩:=f10 rfl
    subst h9
    obtain ⟨x3_g11,s9,h9,hg11,hs9,hm11⟩:=f12 rfl
    subst h9
    obtain rfl:s9 = .slice x3_A10 x3_N10 x3_C10:=by simpa using hs9.symm
    clear hs9
    simp only [cond_true] at hc
    have hbs9:∀ x,x∈([⟨x3_g11,#[.slice x3_A10 x3_N10 x3_C10],28⟩,⟨x2_g11,#[.slice x2_A10 x2_N10 x2_C10],28⟩,⟨x1_g15,#[.slice x1_A13 x1_N13 x1_C13],28⟩,⟨x1_g14,#[.slice x1_A6 x1_N6 x1_C6],28⟩,⟨w.heap.size+1,#[.bool false,.slice none 0 0,.slice none 0 0],35⟩,⟨w.heap.size,#[.bool s,.slice a1 n1 c1,.slice a2 n2 c2,.bool t,.slice a3 n3 c3,.slice a4 n4 c4],76⟩]:List En)→x∈bs9:=by
     intro x hx
     rcases List.mem_cons.1 hx with rfl|hx
     ·exact hm11
     rcases List.mem_cons.1 hx with rfl|hx
     ·exact (hc.old _ (by simp)).1
     rcases List.mem_cons.1 hx with rfl|hx
     ·exact (hc.old _ (by simp)).1
     rcases List.mem_cons.1 hx with rfl|hx
     ·exact (hc.old _ (by simp)).1
     rcases List.mem_cons.1 hx with rfl|hx
     ·exact (hc.old _ (by simp)).1
     rcases List.mem_cons.1 hx with rfl|hx
     ·exact (hc.old _ (by simp)).1
     exact absurd hx List.not_mem_nil
    have hos9:∀ x,x∈([(x3_A4,x3_N4,x3_C4,x3_M4),(x3_A9,x3_N9,x3_C9,x3_M9),(x3_A10,x3_N10,x3_C10,x3_M10),(x2_A10,x2_N10,x2_C10,x2_M10),(x1_A6,x1_N6,x1_C6,x1_M6),(x1_A13,x1_N13,x1_C13,x1_M13)]:Os)→x∈os9:=by
     intro x hx
     rcases List.mem_cons.1 hx with rfl|hx
     ·exact q4m
     rcases List.mem_cons.1 hx with rfl|hx
     ·exact q9m
     rcases List.mem_cons.1 hx with rfl|hx
     ·exact q10m
     rcases List.mem_cons.1 hx with rfl|hx
     ·exact hc.oso _ (by simp)
     rcases List.mem_cons.1 hx with rfl|hx
     ·exact hc.oso _ (by simp)
     rcases List.mem_cons.1 hx with rfl|hx
     ·exact hc.oso _ (by simp)
     exact absurd hx List.not_mem_nil
    have hS:=hc.st.sub hbs9 (fun x hx=>hx) hos9
    have hsz9:=hc.sz
    rw [hS9z,hsW9] at hsz9
    have hlx3_g11:=hg11
    rw [hS9z,hsW9] at hlx3_g11
    have hux3_g11:=block_lt (hc.st.bx _ hm11).1
    simp only [] at hux3_g11
    clear hbs9 hos9 hc f0 f1 f2 f3 f4 f5 f6 f7 f8 f9 f10 f11 f12 g9_4 g10_4 g10_9 g12_11 g12_10 g12_4 g12_9
    clear q4m q9m q10m hm11 hg11
    have hz3:=hsz9
    clear hsz9 hS9z hS9 hC9 hsW9
    have Qx3_4:=hide qx3_4
    clear qx3_4
    have Qx3_9:=hide qx3_9
    clear qx3_9
    have Qx3_10:=hide qx3_10
    clear qx3_10
    obtain ⟨⟨k0_0,-⟩,z0⟩:=hS.cz ⟨x3_g11,#[.slice x3_A10 x3_N10 x3_C10],28⟩ (by simp)
    have z0_0:=z0 0
    clear z0
    obtain ⟨⟨k1_0,-⟩,z1⟩:=hS.cz ⟨x2_g11,#[.slice x2_A10 x2_N10 x2_C10],28⟩ (by simp)
    have z1_0:=z1 0
    clear z1
    obtain ⟨⟨k2_0,-⟩,z2⟩:=hS.cz ⟨x1_g15,#[.slice x1_A13 x1_N13 x1_C13],28⟩ (by simp)
    have z2_0:=z2 0
    clear z2
    obtain ⟨⟨k3_0,-⟩,z3⟩:=hS.cz ⟨x1_g14,#[.slice x1_A6 x1_N6 x1_C6],28⟩ (by simp)
    have z3_0:=z3 0
    clear z3
    obtain ⟨⟨k4_0,k4_1,k4_2,-⟩,z4⟩:=hS.cz ⟨w.heap.size+1,#[.bool false,.slice none 0 0,.slice none 0 0],35⟩ (by simp)
    have z4_0:=z4 0
    have z4_1:=z4 1
    have z4_2:=z4 2
    clear z4
    obtain ⟨⟨k5_0,k5_1,k5_2,k5_3,k5_4,k5_5,-⟩,z5⟩:=hS.cz ⟨w.heap.size,#[.bool s,.slice a1 n1 c1,.slice a2 n2 c2,.bool t,.slice a3 n3 c3,.slice a4 n4 c4],76⟩ (by simp)
    have z5_0:=z5 0
    have z5_1:=z5 1
    have z5_2:=z5 2
    have z5_3:=z5 3
    have z5_4:=z5 4
    have z5_5:=z5 5
    clear z5
    simp only [] at k0_0 z0_0 k1_0 z1_0 k2_0 z2_0 k3_0 z3_0 k4_0 z4_0 k4_1 z4_1 k4_2 z4_2 k5_0 z5_0 k5_1 z5_1 k5_2 z5_2 k5_3 z5_3 k5_4 z5_4 k5_5 z5_5
    go_wp2_with fail
    clear k0_0 z0_0 k1_0 z1_0 k2_0 z2_0 k3_0 z3_0 k4_0 z4_0 k4_1 z4_1 k4_2 z4_2 k5_0 z5_0 k5_1 z5_1 k5_2 z5_2 k5_3 z5_3 k5_4 z5_4 k5_5 z5_5
    refine (W_frac hS (!(s == t)) x2_A10 x3_A10 x2_N10 x3_N10 x2_C10 x3_C10).mono ?_
    clear hS; rintro en Wz ⟨⟨s7,b7,k7,l7,b8,k8,l8,r7,rfl,q7⟩,hS,hzz⟩
    have Q7:=hide q7
    clear q7
    obtain ⟨⟨k0_0,k0_1,k0_2,-⟩,z0⟩:=hS.cz ⟨w.heap.size+1,#[.bool false,.slice none 0 0,.slice none 0 0],35⟩ (by simp)
    have z0_0:=z0 0
    have z0_1:=z0 1
    have z0_2:=z0 2
    clear z0
    simp only [] at k0_0 z0_0 k0_1 z0_1 k0_2 z0_2
    go_wp2
    have hend:=prod_end hd1 hd2 (unhide Qx1_6) (unhide Qx1_13) (unhide Qx2_4) (unhide Qx2_9) (unhide Qx2_10) (unhide Qx3_4) (unhide Qx3_9) (unhide Qx3_10)
    have q7:=unhide Q7
    replace hS:=hS.sub (bs':=[⟨w.heap.size+1,#[.bool false,.slice none 0 0,.slice none 0 0],35⟩]) (ms':=[]) (by intro x hx; rcases List.mem_cons.1 hx with rfl|hx; simp; exact absurd hx List.not_mem_nil) (by intro x hx; exact absurd hx List.not_mem_nil) (fun x hx=>hx)
    have u1:=hS.cellAt (x:=⟨w.heap.size+1,#[.bool false,.slice none 0 0,.slice none 0 0],35⟩) (by simp) 0 (.bool false) rfl
    have y1:=hS.frozen (x:=⟨w.heap.size+1,#[.bool false,.slice none 0 0,.slice none 0 0],35⟩) (by simp) 0
    simp only [] at u1 y1
    replace hS:=hS.put (x:=⟨w.heap.size+1,#[.bool false,.slice none 0 0,.slice none 0 0],35⟩) (by simp) (by simp only []; omega) 0 (.bool s7) (by simp) [⟨w.heap.size+1,#[.bool s7,.slice none 0 0,.slice none 0 0],35⟩] (by intro y hy; rcases List.mem_cons.1 hy with rfl|hy; exact Or.inl rfl; exact absurd hy List.not_mem_nil)
    have u2:=hS.cellAt (x:=⟨w.heap.size+1,#[.bool s7,.slice none 0 0,.slice none 0 0],35⟩) (by simp) 1 (.slice none 0 0) rfl
    have y2:=hS.frozen (x:=⟨w.heap.size+1,#[.bool s7,.slice none 0 0,.slice none 0 0],35⟩) (by simp) 1
    simp only [] at u2 y2
    replace hS:=hS.put (x:=⟨w.heap.size+1,#[.bool s7,.slice none 0 0,.slice none 0 0],35⟩) (by simp) (by simp only []; omega) 1 (.slice b7 k7 l7) (by simp) [⟨w.heap.size+1,#[.bool s7,.slice b7 k7 l7,.slice none 0 0],35⟩] (by intro y hy; rcases List.mem_cons.1 hy with rfl|hy; exact Or.inl rfl; exact absurd hy List.not_mem_nil)
    have u3:=hS.cellAt (x:=⟨w.heap.size+1,#[.bool s7,.slice b7 k7 l7,.slice none 0 0],35⟩) (by simp) 2 (.slice none 0 0) rfl
    have y3:=hS.frozen (x:=⟨w.heap.size+1,#[.bool s7,.slice b7 k7 l7,.slice none 0 0],35⟩) (by simp) 2
    simp only [] at u3 y3
    replace hS:=hS.put (x:=⟨w.heap.size+1,#[.bool s7,.slice b7 k7 l7,.slice none 0 0],35⟩) (by simp) (by simp only []; omega) 2 (.slice b8 k8 l8) (by simp) [⟨w.heap.size+1,#[.bool s7,.slice b7 k7 l7,.slice b8 k8 l8],35⟩] (by intro y hy; rcases List.mem_cons.1 hy with rfl|hy; exact Or.inl rfl; exact absurd hy List.not_mem_nil)
    have hbel:=But.gr (B:=w.heap.size) (gr_refl w) hS.fr (by omega) (Nat.le_refl _)
    refine bodyPost_ret (v:=.tuple #[RatV s7 b7 k7 l7 b8 k8 l8,.int .i64 r7]) (by simp [results,Tryz.results30,go_sem,RatV,k0_0,k0_1,k0_2]) rfl ⟨?_,hbel⟩
    have o1:=hS.ow (x2_A10,x2_N10,x2_C10,x2_M10) (by simp)
    have o2:=hS.ow (x3_A10,x3_N10,x3_C10,x3_M10) (by simp)
    rcases q7 with ⟨h0,rfl,rfl,rfl,rfl,rfl,rfl,rfl,rfl⟩|⟨h0,rfl,rfl,rfl,rfl,rfl,rfl,rfl,rfl⟩
    ·obtain ⟨e1,e2⟩:=hend.1 h0
     have hz1:=o1.num.zero
     simp only [] at o1 o2 hz1
     rw [e1] at o1 hz1
     rw [e2] at o2
     refine Or.inl ⟨_,_,_,_,_,_,?_,o1,o2⟩
     rw [show decide (k7 = 0) = decide (_ = 0) from decide_eq_decide.2 hz1]
     all_goals rfl
    ·obtain ⟨e1,e2⟩:=hend.2 h0
     exact Or.inr ⟨by rw [e1],e2⟩
   ·simp
   ·exact ⟨⟨false,false,false,false,false,false,false,false,false,false,false,false,false,undef,undef,undef,undef,undef,undef,undef,undef,undef,undef,undef,undef,none,0,0,0,0,none,0,0,0,0,none,0,0,0,0,_,_⟩,rfl,rfl,⟨hC9,nb,nb,nb,nb,nb,nb,nb,nb,nb,nb,nb,nb,nb,nb,nb,nb,nb,nb,nb,nb⟩⟩
  ·simp
  ·exact ⟨⟨false,false,false,false,false,false,false,false,false,false,false,false,false,undef,undef,undef,undef,undef,undef,undef,undef,undef,undef,undef,undef,none,0,0,0,0,none,0,0,0,0,none,0,0,0,0,_,_⟩,rfl,rfl,⟨hC9,nb,nb,nb,nb,nb,nb,nb,nb,nb,nb,nb,nb,nb,nb,nb,nb,nb,nb,nb,nb⟩⟩
 ·simp
 ·exact ⟨⟨false,false,false,false,false,false,false,false,false,false,false,false,false,false,false,false,false,false,undef,undef,undef,undef,undef,undef,undef,undef,undef,undef,undef,undef,undef,undef,undef,undef,none,0,0,0,0,none,0,0,0,0,_,_⟩,rfl,rfl,⟨hC9,nb,nb,nb,nb,nb,nb,nb,nb,nb,nb,nb,nb,nb,nb,nb,nb,nb,nb,nb,nb,nb,nb,nb,nb,nb⟩⟩
def RIs (w:World) (base:Nat) (s:Bool) (a:Option Addr) (n c:Nat) (a':Option Addr) (n' c':Nat) (r:Int) (z:Rat):Prop:=
 (r = 0∧s = decide (z.num < 0)∧Mine w base a n c z.num.natAbs∧Mine w base a' n' c' z.den) ∨
 (r = 4∧(s = false∧a = none∧n = 0∧c = 0∧a' = none∧n' = 0∧c' = 0)∧(Over z.num.natAbs∨Over z.den))
def ROk (w:World) (base:Nat) (en:Ending) (z:Rat):Prop:=
 ∃ s a n c a' n' c' r,en = .returned (.tuple #[.agg #[.bool s,.slice a n c,.slice a' n' c'],.int .i64 r])∧RIs w base s a n c a' n' c' r z
theorem RAns.ok {w:World} {base:Nat} {en:Ending} {s:Bool} {num den:Nat} {z:Rat} (h:RAns w base en s num den) (q:Rm.Q z (s && !decide (num = 0)) num den):ROk w base en z:=by
 rcases h with ⟨a,n,c,a',n',c',rfl,h1,h2⟩|⟨rfl,h⟩
 ·exact ⟨_,a,n,c,a',n',c',0,rfl,Or.inl ⟨rfl,q.neg.symm,by rw [q.abs]; exact h1,by rw [q.den]; exact h2⟩⟩
 ·exact ⟨false,none,0,0,none,0,0,4,rfl,Or.inr ⟨rfl,⟨rfl,rfl,rfl,rfl,rfl,rfl,rfl⟩,by rw [q.abs,q.den]; exact h⟩⟩
theorem RIs.kept {w w':World} {base base':Nat} {s:Bool} {a a':Option Addr} {n c n' c':Nat} {r:Int} {z:Rat} (h:RIs w base s a n c a' n' c' r z) (hb:Below w.heap.size w w') (hB:base'≤base):RIs w' base' s a n c a' n' c' r z:=by
 rcases h with ⟨h0,h1,h2,h3⟩|h
 ·exact Or.inl ⟨h0,h1,(h2.kept hb).mono hB,(h3.kept hb).mono hB⟩
 ·exact Or.inr h
theorem RIs.mono {w:World} {base base':Nat} {s:Bool} {a a':Option Addr} {n c n' c':Nat} {r:Int} {z:Rat} (h:RIs w base s a n c a' n' c' r z) (hB:base'≤base):RIs w base' s a n c a' n' c' r z:=h.kept (gr_refl _) hB
theorem RIs.put {w:World} {base:Nat} {s:Bool} {a a':Option Addr} {n c n' c':Nat} {r:Int} {z:Rat} (h:RIs w base s a n c a' n' c' r z) {b:Nat} {cs:Array Value} {t:TypeId} (hb:w.heap[b]? = some (.cells cs t (0,0))) (ht:t≠39) (j:Nat) (u:Value):RIs (w.setCell ⟨b,j,none⟩ u) base s a n c a' n' c' r z:=by
 rcases h with ⟨h0,h1,h2,h3⟩|h
 ·exact Or.inl ⟨h0,h1,h2.put hb ht j u,h3.put hb ht j u⟩
 ·exact Or.inr h
structure Fq (w:World) (s:Bool) (a:Option Addr) (n:Nat) (a':Option Addr) (n':Nat) (x:Rat):Prop where
 neg:s = decide (x.num < 0)
 num:Num w a n x.num.natAbs
 den:Num w a' n' x.den
theorem Fq.q {w:World} {s:Bool} {a a':Option Addr} {n n':Nat} {x:Rat} (h:Fq w s a n a' n' x):Rm.Q x s x.num.natAbs x.den:=by rw [h.neg]; exact Rm.Q.self x
theorem Fq.kept {w w':World} {s:Bool} {a a':Option Addr} {n n':Nat} {x:Rat} (h:Fq w s a n a' n' x) (hb:Below w.heap.size w w'):Fq w' s a n a' n' x:=⟨h.neg,h.num.kept hb,h.den.kept hb⟩
theorem Fq.alloc {w:World} {s:Bool} {a a':Option Addr} {n n':Nat} {x:Rat} (h:Fq w s a n a' n' x) (o:Obj):Fq (w.alloc o) s a n a' n' x:=h.kept (gr_alloc _ _)
theorem product_rat (s t:Bool) (a1 a2 a3 a4:Option Addr) (n1 n2 n3 n4 c1 c2 c3 c4:Nat) (x y:Rat) (w:World) (hx:Fq w s a1 n1 a2 n2 x) (hy:Fq w t a3 n3 a4 n4 y) :
  Calls Tryz.prog 30 #[.agg #[.bool s,.slice a1 n1 c1,.slice a2 n2 c2,.bool t,.slice a3 n3 c3,.slice a4 n4 c4]] w fun en w'=>ROk w' w.heap.size en (x * y)∧Below w.heap.size w w':=by
 refine (product_any s t a1 a2 a3 a4 n1 n2 n3 n4 c1 c2 c3 c4 x.num.natAbs x.den y.num.natAbs y.den w hx.num hx.den hy.num hy.den hx.q.pos hy.q.pos).mono ?_
 rintro en w' ⟨h1,h2⟩
 exact ⟨h1.ok (hx.q.product hy.q),h2⟩
def FrD (e:Int) (s:Bool) (a:Option Addr) (n c:Nat) (a':Option Addr) (n' c':Nat) (s':Bool) (b:Option Addr) (k l:Nat) (b':Option Addr) (k' l':Nat) (r:Int):Prop:=
 (e = 0∧r = 0∧s' = (s && !decide (n = 0))∧b = a∧k = n∧l = c∧b' = a'∧k' = n'∧l' = c')∨(e≠0∧r = e∧s' = false∧b = none∧k = 0∧l = 0∧b' = none∧k' = 0∧l' = 0)
def FrW (w0 W:World) (p:Nat) (e:Int) (bs:List En) (ms:Ms) (os:Os) (s:Bool) (a:Option Addr) (n c:Nat) (a':Option Addr) (n' c':Nat) (en:Ending) (W':World):Prop:=
 (∃ s' b k l b' k' l' r,en = .returned (.tuple #[.agg #[.bool s',.slice b k l,.slice b' k' l'],.int .i64 r])∧FrD e s a n c a' n' c' s' b k l b' k' l' r)∧Rs w0 W' (some (p,e)) bs ms os∧W.heap.size≤W'.heap.size
theorem W_fracD {w0 W:World} {p:Nat} {e:Int} {bs:List En} {ms:Ms} {os:Os} (hS:Rs w0 W (some (p,e)) bs ms os) (s:Bool) (a a':Option Addr) (n n' c c':Nat) :
  Calls Tryz.prog 70 #[.pointer (some ⟨p,0,none⟩),.bool s,.agg #[.slice a n c],.agg #[.slice a' n' c']] W (FrW w0 W p e bs ms os s a n c a' n' c'):=
 (W_frac hS s a a' n n' c c').mono fun _ _ h=>h
theorem make_end {m d M1 N D:Nat} {e1 e2 e3:Int} (hd:0 < d) (q1:Wz 0 e1 M1 (Nat.gcd m d) False) (q2:∃ R,Wd e1 e2 N R m M1) (q3:∃ R,Wd e2 e3 D R d M1) :
  (e3 = 0→N = m / Nat.gcd m d∧D = d / Nat.gcd m d)∧e3 = 0:=by
 obtain ⟨R2,q2⟩:=q2
 obtain ⟨R3,q3⟩:=q3
 have p1:0 < Nat.gcd m d:=Nat.gcd_pos_of_pos_right _ hd
 have s1:Sf e1 False:=q1.next (Or.inl rfl) (fun _ h=>h)
 have f1:e1 = 0→M1 = Nat.gcd m d:=fun h=>(q1.ok h).2
 have s2:=q2.next s1 (fun h=>by rw [f1 h]; exact p1)
 have s3:=q3.next s2 (fun h=>by rw [f1 (q2.ok h).1]; exact p1)
 refine ⟨fun h=>?_,?_⟩
 ·have k:=q3.ok h
  have l:=q2.ok k.1
  rw [f1 l.1] at k l
  exact ⟨l.2.1,k.2.1⟩
 ·rcases s3 with h|⟨_,h⟩
  ·exact h
  ·exact h.elim
structure Mak5S where
 (b0 b1 b2 b3 b4 b5 b6 b7 b8 b9 b10 b11:Bool)
 (v0 v1 v2 v3 v4 v5 v6 v7 v8 v9 v11:Value)
 (A3:Option Addr)
 (N3 C3:Nat)
 (M3:Nat)
 (E3:Int)
 (A6:Option Addr)
 (N6 C6:Nat)
 (M6:Nat)
 (E6:Int)
 (Z7:Bool) (A7:Option Addr) (N7 C7:Nat) (P7:Option Addr) (Q7 R7:Nat) (E7:Int)
 bs9:List En
 os9:Os
structure Mak5R (w:World) (s:Bool) (a a':Option Addr) (n n' c c' m d:Nat) (w3:World) (yA4:Option Addr) (yN4 yC4 yM4:Nat) (yE4:Int) (w4:World) (S9:Nat) (b0 b1 b2 b3 b4 b5 b6 b7 b8 b9 b10 b11:Bool) (v0 v1 v2 v3 v4 v5 v6 v7 v8 v9 v11:Value) (A3:Option Addr) (N3 C3:Nat) (M3:Nat) (E3:Int) (A6:Option Addr) (N6 C6:Nat) (M6:Nat) (E6:Int) (Z7:Bool) (A7:Option Addr) (N7 C7:Nat) (P7:Option Addr) (Q7 R7:Nat) (E7:Int) (bs9:List En) (os9:Os) (w':World):Prop where
 hc:Rc w S9 [⟨w4.heap.size,#[.slice yA4 yN4 yC4],28⟩,⟨w.heap.size+1,#[.slice a' n' c'],28⟩,⟨w.heap.size,#[.slice a n c],28⟩] [(a',n',d),(a,n,m)] [(yA4,yN4,yC4,yM4)] (some ((w3.heap.size),(cond b6 E6 (cond b3 E3 yE4)))) bs9 os9 w'
 f0:b0 = true→v0 = .bool s
 f1:b1 = true→v1 = .agg #[.slice a n c]
 f2:b2 = true→v2 = .agg #[.slice yA4 yN4 yC4]
 f3:b3 = true→v3 = .agg #[.slice A3 N3 C3]∧(A3,N3,C3,M3)∈os9∧(∃ R,Wd yE4 E3 M3 R m yM4)
 f4:b4 = true→v4 = .agg #[.slice a' n' c']
 f5:b5 = true→v5 = .agg #[.slice yA4 yN4 yC4]
 f6:b6 = true→v6 = .agg #[.slice A6 N6 C6]∧(A6,N6,C6,M6)∈os9∧(∃ R,Wd E3 E6 M6 R d yM4)
 f7:b7 = true→v7 = .tuple #[.agg #[.bool Z7,.slice A7 N7 C7,.slice P7 Q7 R7],.int .i64 E7]∧FrD E6 s A3 N3 C3 A6 N6 C6 Z7 A7 N7 C7 P7 Q7 R7 E7
 f8:b8 = true→v8 = .agg #[.bool Z7,.slice A7 N7 C7,.slice P7 Q7 R7]
 f9:b9 = true→v9 = .int .i64 E7
 f11:b11 = true→v11 = .int .i64 E7
 o0_0:b10 = false→⟨w.heap.size+1+1,#[.bool false,.slice none 0 0,.slice none 0 0],35⟩∈bs9
 o0_1:b10 = true→⟨w.heap.size+1+1,#[.bool Z7,.slice A7 N7 C7,.slice P7 Q7 R7],35⟩∈bs9
 g6_3:b6 = true→b3 = true
 g7_3:b7 = true→b3 = true
 g7_6:b7 = true→b6 = true
 g8_7:b8 = true→b7 = true
 g8_3:b8 = true→b3 = true
 g8_6:b8 = true→b6 = true
 g9_7:b9 = true→b7 = true
 g9_3:b9 = true→b3 = true
 g9_6:b9 = true→b6 = true
 g10_8:b10 = true→b8 = true
 g10_7:b10 = true→b7 = true
 g10_3:b10 = true→b3 = true
 g10_6:b10 = true→b6 = true
 g11_7:b11 = true→b7 = true
 g11_3:b11 = true→b3 = true
 g11_6:b11 = true→b6 = true
def Mak5I (w:World) (s:Bool) (a a':Option Addr) (n n' c c' m d:Nat) (w3:World) (yA4:Option Addr) (yN4 yC4 yM4:Nat) (yE4:Int) (w4:World) (S9:Nat) (l:Array Bool) (act:Act) (w':World):Mak5S→Prop
 | ⟨b0,b1,b2,b3,b4,b5,b6,b7,b8,b9,b10,b11,v0,v1,v2,v3,v4,v5,v6,v7,v8,v9,v11,A3,N3,C3,M3,E3,A6,N6,C6,M6,E6,Z7,A7,N7,C7,P7,Q7,R7,E7,bs9,os9⟩=>l = #[b0,b1,b2,b3,b4,b5,b6,b7,b8,b9,b10,b11]∧act = { tmps:=#[.bool s,.agg #[.slice a n c],.agg #[.slice a' n' c'],undef,.pointer (some ⟨w.heap.size,0,none⟩),.pointer (some ⟨w.heap.size+1,0,none⟩),.pointer (some ⟨w.heap.size+1+1,0,none⟩),v11,.int .i64 0,.int .i64 0,.pointer (some ⟨w3.heap.size,0,none⟩),.pointer (some ⟨w4.heap.size,0,none⟩),.agg #[.slice a n c],.int .i64 0,.int .i64 0,.bool false,undef,undef,.agg #[.slice a' n' c'],.int .i64 0,.int .i64 0,.bool false,undef,undef,.agg #[.slice a' n' c'],.bool false,undef,.agg #[.slice a n c],.agg #[.slice a' n' c'],.agg #[.slice yA4 yN4 yC4],v0,v1,v2,v3,v4,v5,v6,v7,v8,v9],defers:=[] }∧Mak5R w s a a' n n' c c' m d w3 yA4 yN4 yC4 yM4 yE4 w4 S9 b0 b1 b2 b3 b4 b5 b6 b7 b8 b9 b10 b11 v0 v1 v2 v3 v4 v5 v6 v7 v8 v9 v11 A3 N3 C3 M3 E3 A6 N6 C6 M6 E6 Z7 A7 N7 C7 P7 Q7 R7 E7 bs9 os9 w'
theorem make_any (s:Bool) (a a':Option Addr) (n n' c c' m d:Nat) (w:World) (h1:Num w a n m) (h2:Num w a' n' d) (hd:0 < d) :
  Calls Tryz.prog 36 #[.bool s,.agg #[.slice a n c],.agg #[.slice a' n' c']] w fun en w'=>RAns w' w.heap.size en s (m / Nat.gcd m d) (d / Nat.gcd m d)∧Below w.heap.size w w':=by
 have hn0:decide (n' = 0) = false:=by rw [decide_eq_false_iff_not]; intro e; have:=h2.zero.1 e; omega
 have hS:=Rs.begin w
 replace hS:=hS.num h1
 replace hS:=hS.num h2
 replace hS:=hS.alloc #[.slice a n c] 28
 try simp only [World.size_alloc] at hS
 replace hS:=hS.alloc #[.slice a' n' c'] 28
 try simp only [World.size_alloc] at hS
 replace hS:=hS.alloc #[.bool false,.slice none 0 0,.slice none 0 0] 35
 try simp only [World.size_alloc] at hS
 go_enter Tryz.func36,Tryz.ntmps36
 go_wp2_with fail
 refine (check_num a n c m _ (hS.nm (a,n,m) (by simp))).mono ?_
 rintro en w1 ⟨rfl,hb9⟩
 have hz1:=hb9.size
 replace hS:=hS.kept hb9
 clear hb9
 simp only [World.size_alloc] at hz1
 obtain ⟨⟨k0_0,-⟩,z0⟩:=hS.cz ⟨w.heap.size+1,#[.slice a' n' c'],28⟩ (by simp)
 have z0_0:=z0 0
 clear z0
 simp only [] at k0_0 z0_0
 go_wp2_with fail
 clear k0_0 z0_0
 refine (check_num a' n' c' d _ (hS.nm (a',n',d) (by simp))).mono ?_
 rintro en w2 ⟨rfl,hb9⟩
 have hz2:=hb9.size
 replace hS:=hS.kept hb9
 clear hb9
 obtain ⟨⟨k0_0,-⟩,z0⟩:=hS.cz ⟨w.heap.size+1,#[.slice a' n' c'],28⟩ (by simp)
 have z0_0:=z0 0
 clear z0
 simp only [] at k0_0 z0_0
 go_wp2_with fail
 clear k0_0 z0_0
 refine (nought_any a' n' c' _).mono ?_
 rintro en w3 ⟨rfl,hb9⟩
 have hz3:=hb9.size
 replace hS:=hS.kept hb9
 clear hb9
 rw [hn0]
 obtain ⟨⟨k0_0,-⟩,z0⟩:=hS.cz ⟨w.heap.size+1,#[.slice a' n' c'],28⟩ (by simp)
 have z0_0:=z0 0
 clear z0
 obtain ⟨⟨k1_0,-⟩,z1⟩:=hS.cz ⟨w.heap.size,#[.slice a n c],28⟩ (by simp)
 have z1_0:=z1 0
 clear z1
 simp only [] at k0_0 z0_0 k1_0 z1_0
 replace hS:=hS.work
 try simp only [World.size_alloc] at hS
 have kw0_0:=hS.cellAt (x:=⟨w.heap.size+1+1,#[.bool false,.slice none 0 0,.slice none 0 0],35⟩) (by simp) 0 (.bool false) rfl
 have kw0_1:=hS.cellAt (x:=⟨w.heap.size+1+1,#[.bool false,.slice none 0 0,.slice none 0 0],35⟩) (by simp) 1 (.slice none 0 0) rfl
 have kw0_2:=hS.cellAt (x:=⟨w.heap.size+1+1,#[.bool false,.slice none 0 0,.slice none 0 0],35⟩) (by simp) 2 (.slice none 0 0) rfl
 have kw1_0:=hS.cellAt (x:=⟨w.heap.size+1,#[.slice a' n' c'],28⟩) (by simp) 0 (.slice a' n' c') rfl
 have kw2_0:=hS.cellAt (x:=⟨w.heap.size,#[.slice a n c],28⟩) (by simp) 0 (.slice a n c) rfl
 simp only [] at kw0_0 kw0_1 kw0_2 kw1_0 kw2_0
 go_wp2_with fail
 clear k0_0 z0_0 k1_0 z1_0
 clear kw0_0 kw0_1 kw0_2 kw1_0 kw2_0
 refine (W_gcd hS c c' (hS.nm (a,n,m) (by simp)) (hS.nm (a',n',d) (by simp))).mono ?_
 clear hS; rintro en w4 ⟨yA4,yN4,yC4,yM4,yE4,rfl,hS,q4,hz4⟩
 have Q4:=hide q4
 clear q4
 simp only [World.size_alloc] at hz4
 replace hS:=hS.alloc #[.slice yA4 yN4 yC4] 28
 try simp only [World.size_alloc] at hS
 go_wp2_with fail
 refine wp_region_any (by kernel_rfl) ?_
 change wpAny _ _ _ _ _ _ _ (World.drew _)
 have hS9:=hS.drew
 have hsW9:(World.drew (w4.alloc (.cells #[.slice yA4 yN4 yC4] 28))).heap.size = w4.heap.size+1:=by first|rfl|simp
 generalize World.drew (w4.alloc (.cells #[.slice yA4 yN4 yC4] 28)) = Wd at hS9 hsW9 ⊢
 obtain ⟨S9,hS9z⟩:∃ x,x = Wd.heap.size:=⟨_,rfl⟩
 have hC9:=Rc.start (bs:=[⟨w4.heap.size,#[.slice yA4 yN4 yC4],28⟩,⟨w.heap.size+1,#[.slice a' n' c'],28⟩,⟨w.heap.size,#[.slice a n c],28⟩]) hS9 (by simp)
 rw [← hS9z] at hC9
 have hP9_0:=hS9.bx ⟨w.heap.size+1+1,#[.bool false,.slice none 0 0,.slice none 0 0],35⟩ (by simp)
 have hP9_0:=block_lt hP9_0.1
 rw [← hS9z] at hP9_0
 simp only [] at hP9_0
 refine wpAny_inv (fun l act w'=>∃ σ,Mak5I w s a a' n n' c c' m d w3 yA4 yN4 yC4 yM4 yE4 w4 S9 l act w' σ) ?_ ?_ _ _ _ _ ?_ ?_
 ·intro l act w' i9 hI9 hi9 hl9
  have hin9:i9 < 12:=by
   by_cases h:i9 < 12
   ·exact h
   ·obtain ⟨⟨⟩,rfl,_⟩:=hI9
    rw [Array.getElem?_eq_none (by simp; omega)] at hl9; cases hl9
  have hcase:i9 = 0∨i9 = 1∨i9 = 2∨i9 = 3∨i9 = 4∨i9 = 5∨i9 = 6∨i9 = 7∨i9 = 8∨i9 = 9∨i9 = 10∨i9 = 11:=by omega
  clear hin9
  obtain ⟨⟨b0,b1,b2,b3,b4,b5,b6,b7,b8,b9,b10,b11,v0,v1,v2,v3,v4,v5,v6,v7,v8,v9,v11,A3,N3,C3,M3,E3,A6,N6,C6,M6,E6,Z7,A7,N7,C7,P7,Q7,R7,E7,bs9,os9⟩,rfl,rfl,hR⟩:=hI9
  rcases hcase with rfl|rfl|rfl|rfl|rfl|rfl|rfl|rfl|rfl|rfl|rfl|rfl
  ·obtain rfl:b0 = false:=by simpa using hl9
   have hc:=hR.hc
   refine wpOp_step rfl fun K hK=>?_
   go_simp
   exact hK _ _ ⟨⟨_,_,_,_,_,_,_,_,_,_,_,_,_,_,_,_,_,_,_,_,_,_,_,A3,N3,C3,M3,E3,A6,N6,C6,M6,E6,Z7,A7,N7,C7,P7,Q7,R7,E7,_,_⟩,rfl,rfl,{ hR with hc:=hc,f0:=(fun _=>rfl) }⟩
  ·obtain rfl:b1 = false:=by simpa using hl9
   have hc:=hR.hc
   have c9_0:=hc.st.cellAt (hc.old ⟨w.heap.size,#[.slice a n c],28⟩ (by simp)).1 0 (.slice a n c) rfl
   simp only [] at c9_0
   refine wpOp_step rfl fun K hK=>?_
   go_simp
   exact hK _ _ ⟨⟨_,_,_,_,_,_,_,_,_,_,_,_,_,_,_,_,_,_,_,_,_,_,_,A3,N3,C3,M3,E3,A6,N6,C6,M6,E6,Z7,A7,N7,C7,P7,Q7,R7,E7,_,_⟩,rfl,rfl,{ hR with hc:=hc,f1:=(fun _=>rfl) }⟩
  ·obtain rfl:b2 = false:=by simpa using hl9
   have hc:=hR.hc
   have c9_0:=hc.st.cellAt (hc.old ⟨w4.heap.size,#[.slice yA4 yN4 yC4],28⟩ (by simp)).1 0 (.slice yA4 yN4 yC4) rfl
   simp only [] at c9_0
   refine wpOp_step rfl fun K hK=>?_
   go_simp
   exact hK _ _ ⟨⟨_,_,_,_,_,_,_,_,_,_,_,_,_,_,_,_,_,_,_,_,_,_,_,A3,N3,C3,M3,E3,A6,N6,C6,M6,E6,Z7,A7,N7,C7,P7,Q7,R7,E7,_,_⟩,rfl,rfl,{ hR with hc:=hc,f2:=(fun _=>rfl) }⟩
  ·obtain rfl:b3 = false:=by simpa using hl9
   obtain ⟨o9,ho9,hd9⟩:=(mem_ready.1 hi9).2
   cases ho9
   have e1:b1 = true:=hd9 ⟨1,.data⟩ (by simp) rfl
   have e2:b2 = true:=hd9 ⟨2,.data⟩ (by simp) rfl
   subst e1 e2
   have h9:=hR.f1 rfl
   subst h9
   have h9:=hR.f2 rfl
   subst h9
   have hc:=hR.hc
   obtain rfl:b6 = false:=by cases h:b6; rfl; exact Bool.noConfusion (hR.g6_3 h)
   simp only [cond_false] at hc
   have HR:=hide hR
   clear hR
   refine wpOp_step rfl fun K hK=>?_
   go_simp
   go_wp2_with fail
   refine (W_over hc.st c yC4 (hc.st.nm (a,n,m) (by simp)) (hc.st.ow (yA4,yN4,yC4,yM4) (hc.oso _ (by simp))).num).mono ?_
   rintro en w9 ⟨a9,n9,c9,m9,e9,rfl,hs9,hz,hz9⟩
   have hR:=unhide HR
   exact hK _ _ ⟨⟨_,_,_,_,_,_,_,_,_,_,_,_,_,_,_,_,_,_,_,_,_,_,_,_,_,_,_,_,A6,N6,C6,M6,E6,Z7,A7,N7,C7,P7,Q7,R7,E7,_,_⟩,rfl,rfl,{ hR with hc:=(hc.call hs9 hz9 (fun y hy=>List.mem_cons_of_mem _ hy)),f3:=(fun _=>⟨rfl,List.mem_cons_self ..,hz⟩),f6:=(fun h=>Bool.noConfusion (hR.g6_3 h)),f7:=(fun h=>Bool.noConfusion (hR.g7_3 h)),f8:=(fun h=>Bool.noConfusion (hR.g8_3 h)),f9:=(fun h=>Bool.noConfusion (hR.g9_3 h)),f11:=(fun h=>Bool.noConfusion (hR.g11_3 h)),o0_1:=(fun h=>Bool.noConfusion (hR.g10_3 h)),g6_3:=(fun _=>rfl),g7_3:=(fun _=>rfl),g8_3:=(fun _=>rfl),g9_3:=(fun _=>rfl),g10_3:=(fun _=>rfl),g11_3:=(fun _=>rfl) }⟩
  ·obtain rfl:b4 = false:=by simpa using hl9
   have hc:=hR.hc
   have c9_0:=hc.st.cellAt (hc.old ⟨w.heap.size+1,#[.slice a' n' c'],28⟩ (by simp)).1 0 (.slice a' n' c') rfl
   simp only [] at c9_0
   refine wpOp_step rfl fun K hK=>?_
   go_simp
   exact hK _ _ ⟨⟨_,_,_,_,_,_,_,_,_,_,_,_,_,_,_,_,_,_,_,_,_,_,_,A3,N3,C3,M3,E3,A6,N6,C6,M6,E6,Z7,A7,N7,C7,P7,Q7,R7,E7,_,_⟩,rfl,rfl,{ hR with hc:=hc,f4:=(fun _=>rfl) }⟩
  ·obtain rfl:b5 = false:=by simpa using hl9
   have hc:=hR.hc
   have c9_0:=hc.st.cellAt (hc.old ⟨w4.heap.size,#[.slice yA4 yN4 yC4],28⟩ (by simp)).1 0 (.slice yA4 yN4 yC4) rfl
   simp only [] at c9_0
   refine wpOp_step rfl fun K hK=>?_
   go_simp
   exact hK _ _ ⟨⟨_,_,_,_,_,_,_,_,_,_,_,_,_,_,_,_,_,_,_,_,_,_,_,A3,N3,C3,M3,E3,A6,N6,C6,M6,E6,Z7,A7,N7,C7,P7,Q7,R7,E7,_,_⟩,rfl,rfl,{ hR with hc:=hc,f5:=(fun _=>rfl) }⟩
  ·obtain rfl:b6 = false:=by simpa using hl9
   obtain ⟨o9,ho9,hd9⟩:=(mem_ready.1 hi9).2
   cases ho9
   have e4:b4 = true:=hd9 ⟨4,.data⟩ (by simp) rfl
   have e5:b5 = true:=hd9 ⟨5,.data⟩ (by simp) rfl
   have e3:b3 = true:=hd9 ⟨3,.chain⟩ (by simp) rfl
   subst e4 e5 e3
   have h9:=hR.f4 rfl
   subst h9
   have h9:=hR.f5 rfl
   subst h9
   have q3:=hR.f3 rfl
   obtain ⟨h9,q3m,q3z⟩:=q3
   subst h9
   have hc:=hR.hc
   simp only [cond_true,cond_false] at hc
   have HR:=hide hR
   clear hR
   refine wpOp_step rfl fun K hK=>?_
   go_simp
   go_wp2_with fail
   refine (W_over hc.st c' yC4 (hc.st.nm (a',n',d) (by simp)) (hc.st.ow (yA4,yN4,yC4,yM4) (hc.oso _ (by simp))).num).mono ?_
   rintro en w9 ⟨a9,n9,c9,m9,e9,rfl,hs9,hz,hz9⟩
   have hR:=unhide HR
   exact hK _ _ ⟨⟨_,_,_,_,_,_,_,_,_,_,_,_,_,_,_,_,_,_,_,_,_,_,_,A3,N3,C3,M3,E3,_,_,_,_,_,Z7,A7,N7,C7,P7,Q7,R7,E7,_,_⟩,rfl,rfl,{ hR with hc:=(hc.call hs9 hz9 (fun y hy=>List.mem_cons_of_mem _ hy)),f3:=(fun h=>⟨(hR.f3 h).1,List.mem_cons_of_mem _ (hR.f3 h).2.1,(hR.f3 h).2.2⟩),f6:=(fun _=>⟨rfl,List.mem_cons_self ..,hz⟩),f7:=(fun h=>Bool.noConfusion (hR.g7_6 h)),f8:=(fun h=>Bool.noConfusion (hR.g8_6 h)),f9:=(fun h=>Bool.noConfusion (hR.g9_6 h)),f11:=(fun h=>Bool.noConfusion (hR.g11_6 h)),o0_1:=(fun h=>Bool.noConfusion (hR.g10_6 h)),g6_3:=(fun _=>rfl),g7_6:=(fun _=>rfl),g8_6:=(fun _=>rfl),g9_6:=(fun _=>rfl),g10_6:=(fun _=>rfl),g11_6:=(fun _=>rfl) }⟩
  ·obtain rfl:b7 = false:=by simpa using hl9
   obtain ⟨o9,ho9,hd9⟩:=(mem_ready.1 hi9).2
   cases ho9
   have e0:b0 = true:=hd9 ⟨0,.data⟩ (by simp) rfl
   have e3:b3 = true:=hd9 ⟨3,.data⟩ (by simp) rfl
   have e6:b6 = true:=hd9 ⟨6,.data⟩ (by simp) rfl
   subst e0 e3 e6
   have h9:=hR.f0 rfl
   subst h9
   have q3:=hR.f3 rfl
   obtain ⟨h9,q3m,q3z⟩:=q3
   subst h9
   have q6:=hR.f6 rfl
   obtain ⟨h9,q6m,q6z⟩:=q6
   subst h9
   have hc:=hR.hc
   simp only [cond_true] at hc
   have HR:=hide hR
   clear hR
   refine wpOp_step rfl fun K hK=>?_
   go_simp
   go_wp2_with fail
   refine (W_fracD hc.st (s) A3 A6 N3 N6 C3 C6).mono ?_
   rintro en w9 ⟨⟨s9,b9,k9,l9,b8,k8,l8,r9,rfl,hd9⟩,hs9,hz9⟩
   have hR:=unhide HR
   exact hK _ _ ⟨⟨_,_,_,_,_,_,_,_,_,_,_,_,_,_,_,_,_,_,_,_,_,_,_,A3,N3,C3,M3,E3,A6,N6,C6,M6,E6,_,_,_,_,_,_,_,_,_,_⟩,rfl,rfl,{ hR with hc:=(hc.call hs9 hz9 (fun y hy=>hy)),f7:=(fun _=>⟨rfl,hd9⟩),f8:=(fun h=>Bool.noConfusion (hR.g8_7 h)),f9:=(fun h=>Bool.noConfusion (hR.g9_7 h)),f11:=(fun h=>Bool.noConfusion (hR.g11_7 h)),o0_1:=(fun h=>Bool.noConfusion (hR.g10_7 h)),g7_3:=(fun _=>rfl),g7_6:=(fun _=>rfl),g8_7:=(fun _=>rfl),g9_7:=(fun _=>rfl),g10_7:=(fun _=>rfl),g11_7:=(fun _=>rfl) }⟩
  ·obtain rfl:b8 = false:=by simpa using hl9
   obtain ⟨o9,ho9,hd9⟩:=(mem_ready.1 hi9).2
   cases ho9
   have e7:b7 = true:=hd9 ⟨7,.data⟩ (by simp) rfl
   subst e7
   have q7:=hR.f7 rfl
   obtain ⟨h9,q7m⟩:=q7
   subst h9
   have hc:=hR.hc
   refine wpOp_step rfl fun K hK=>?_
   go_simp
   exact hK _ _ ⟨⟨_,_,_,_,_,_,_,_,_,_,_,_,_,_,_,_,_,_,_,_,_,_,_,A3,N3,C3,M3,E3,A6,N6,C6,M6,E6,Z7,A7,N7,C7,P7,Q7,R7,E7,_,_⟩,rfl,rfl,{ hR with hc:=hc,f8:=(fun _=>rfl),o0_1:=(fun h=>Bool.noConfusion (hR.g10_8 h)),g8_7:=(fun _=>rfl),g8_3:=(fun _=>hR.g7_3 rfl),g8_6:=(fun _=>hR.g7_6 rfl),g10_8:=(fun _=>rfl) }⟩
  ·obtain rfl:b9 = false:=by simpa using hl9
   obtain ⟨o9,ho9,hd9⟩:=(mem_ready.1 hi9).2
   cases ho9
   have e7:b7 = true:=hd9 ⟨7,.data⟩ (by simp) rfl
   subst e7
   have q7:=hR.f7 rfl
   obtain ⟨h9,q7m⟩:=q7
   subst h9
   have hc:=hR.hc
   refine wpOp_step rfl fun K hK=>?_
   go_simp
   exact hK _ _ ⟨⟨_,_,_,_,_,_,_,_,_,_,_,_,_,_,_,_,_,_,_,_,_,_,_,A3,N3,C3,M3,E3,A6,N6,C6,M6,E6,Z7,A7,N7,C7,P7,Q7,R7,E7,_,_⟩,rfl,rfl,{ hR with hc:=hc,f9:=(fun _=>rfl),g9_7:=(fun _=>rfl),g9_3:=(fun _=>hR.g7_3 rfl),g9_6:=(fun _=>hR.g7_6 rfl) }⟩
  ·obtain rfl:b10 = false:=by simpa using hl9
   obtain ⟨o9,ho9,hd9⟩:=(mem_ready.1 hi9).2
   cases ho9
   have e8:b8 = true:=hd9 ⟨8,.data⟩ (by simp) rfl
   subst e8
   obtain rfl:b7 = true:=hR.g8_7 rfl
   have q7:=hR.f7 rfl
   obtain ⟨h9,q7m⟩:=q7
   subst h9
   obtain rfl:b3 = true:=hR.g8_3 rfl
   have q3:=hR.f3 rfl
   obtain ⟨h9,q3m,q3z⟩:=q3
   subst h9
   obtain rfl:b6 = true:=hR.g8_6 rfl
   have q6:=hR.f6 rfl
   obtain ⟨h9,q6m,q6z⟩:=q6
   subst h9
   have h9:=hR.f8 rfl
   subst h9
   have hc:=hR.hc
   have hm9:=hR.o0_0 rfl
   have fz9_0:=hc.st.frozen hm9 0
   have cz9_0:=hc.st.cellAt hm9 0 (.bool false) rfl
   simp only [] at fz9_0 cz9_0
   have fz9_1:=hc.st.frozen hm9 1
   have cz9_1:=hc.st.cellAt hm9 1 (.slice none 0 0) rfl
   simp only [] at fz9_1 cz9_1
   have fz9_2:=hc.st.frozen hm9 2
   have cz9_2:=hc.st.cellAt hm9 2 (.slice none 0 0) rfl
   simp only [] at fz9_2 cz9_2
   have hn9:∀ x,x∈([⟨w4.heap.size,#[.slice yA4 yN4 yC4],28⟩,⟨w.heap.size+1,#[.slice a' n' c'],28⟩,⟨w.heap.size,#[.slice a n c],28⟩]:List En)→x.b≠w.heap.size+1+1:=by intro x hx; rcases List.mem_cons.1 hx with rfl|hx; (simp only []; omega); rcases List.mem_cons.1 hx with rfl|hx; (simp only []; omega); rcases List.mem_cons.1 hx with rfl|hx; (simp only []; omega);  exact absurd hx List.not_mem_nil
   have hw9:w.heap.size≤w.heap.size+1+1:=by omega
   refine wpOp_step rfl fun K hK=>?_
   go_simp
   exact hK _ _ ⟨⟨_,_,_,_,_,_,_,_,_,_,_,_,_,_,_,_,_,_,_,_,_,_,_,A3,N3,C3,M3,E3,A6,N6,C6,M6,E6,Z7,A7,N7,C7,P7,Q7,R7,E7,_,_⟩,rfl,rfl,{ hR with hc:=(((hc.store hm9 hw9 hn9 0 (.bool Z7) (by simp)).store (List.mem_cons_self ..) hw9 hn9 1 (.slice A7 N7 C7) (by simp)).store (List.mem_cons_self ..) hw9 hn9 2 (.slice P7 Q7 R7) (by simp)),o0_0:=(fun h=>Bool.noConfusion h),o0_1:=(fun _=>List.mem_cons_self ..),g10_8:=(fun _=>rfl),g10_7:=(fun _=>rfl),g10_3:=(fun _=>rfl),g10_6:=(fun _=>rfl) }⟩
  ·obtain rfl:b11 = false:=by simpa using hl9
   obtain ⟨o9,ho9,hd9⟩:=(mem_ready.1 hi9).2
   cases ho9
   have e9:b9 = true:=hd9 ⟨9,.data⟩ (by simp) rfl
   subst e9
   obtain rfl:b7 = true:=hR.g9_7 rfl
   have q7:=hR.f7 rfl
   obtain ⟨h9,q7m⟩:=q7
   subst h9
   obtain rfl:b3 = true:=hR.g9_3 rfl
   have q3:=hR.f3 rfl
   obtain ⟨h9,q3m,q3z⟩:=q3
   subst h9
   obtain rfl:b6 = true:=hR.g9_6 rfl
   have q6:=hR.f6 rfl
   obtain ⟨h9,q6m,q6z⟩:=q6
   subst h9
   have h9:=hR.f9 rfl
   subst h9
   have hc:=hR.hc
   refine wpOp_step rfl fun K hK=>?_
   go_simp
   exact hK _ _ ⟨⟨_,_,_,_,_,_,_,_,_,_,_,_,_,_,_,_,_,_,_,_,_,_,_,A3,N3,C3,M3,E3,A6,N6,C6,M6,E6,Z7,A7,N7,C7,P7,Q7,R7,E7,_,_⟩,rfl,rfl,{ hR with hc:=hc,f11:=(fun _=>rfl),g11_7:=(fun _=>rfl),g11_3:=(fun _=>rfl),g11_6:=(fun _=>rfl) }⟩
 ·rintro l act Wq5 ⟨⟨b0,b1,b2,b3,b4,b5,b6,b7,b8,b9,b10,b11,v0,v1,v2,v3,v4,v5,v6,v7,v8,v9,v11,x5_A3,x5_N3,x5_C3,x5_M3,x5_E3,x5_A6,x5_N6,x5_C6,x5_M6,x5_E6,x5_Z7,x5_A7,x5_N7,x5_C7,x5_P7,x5_Q7,x5_R7,x5_E7,bs9,os9⟩,rfl,rfl,hR⟩ hr9
  obtain ⟨hc,f0,f1,f2,f3,f4,f5,f6,f7,f8,f9,f11,o0_0,o0_1,g6_3,g7_3,g7_6,g8_7,g8_3,g8_6,g9_7,g9_3,g9_6,g10_8,g10_7,g10_3,g10_6,g11_7,g11_3,g11_6⟩:=hR
  have eall:=all_done hr9 (by kernel_rfl) rfl
  obtain rfl:b0 = true:=eall 0 (by decide)
  obtain rfl:b1 = true:=eall 1 (by decide)
  obtain rfl:b2 = true:=eall 2 (by decide)
  obtain rfl:b3 = true:=eall 3 (by decide)
  obtain rfl:b4 = true:=eall 4 (by decide)
  obtain rfl:b5 = true:=eall 5 (by decide)
  obtain rfl:b6 = true:=eall 6 (by decide)
  obtain rfl:b7 = true:=eall 7 (by decide)
  obtain rfl:b8 = true:=eall 8 (by decide)
  obtain rfl:b9 = true:=eall 9 (by decide)
  obtain rfl:b10 = true:=eall 10 (by decide)
  obtain rfl:b11 = true:=eall 11 (by decide)
  clear hr9 eall
  have h9:=f0 rfl
  subst h9
  have h9:=f1 rfl
  subst h9
  have h9:=f2 rfl
  subst h9
  obtain ⟨h9,q3m,qx5_3⟩:=f3 rfl
  subst h9
  have h9:=f4 rfl
  subst h9
  have h9:=f5 rfl
  subst h9
  obtain ⟨h9,q6m,qx5_6⟩:=f6 rfl
  subst h9
  obtain ⟨h9,qx5_7⟩:=f7 rfl
  subst h9
  have h9:=f8 rfl
  subst h9
  have h9:=f9 rfl
  subst h9
  have h9:=f11 rfl
  subst h9
  simp only [cond_true] at hc
  have hbs9:∀ x,x∈([⟨w.heap.size+1+1,#[.bool x5_Z7,.slice x5_A7 x5_N7 x5_C7,.slice x5_P7 x5_Q7 x5_R7],35⟩,⟨w4.heap.size,#[.slice yA4 yN4 yC4],28⟩,⟨w.heap.size+1,#[.slice a' n' c'],28⟩,⟨w.heap.size,#[.slice a n c],28⟩]:List En)→x∈bs9:=by
   intro x hx
   rcases List.mem_cons.1 hx with rfl|hx
   ·exact (o0_1 rfl)
   rcases List.mem_cons.1 hx with rfl|hx
   ·exact (hc.old _ (by simp)).1
   rcases List.mem_cons.1 hx with rfl|hx
   ·exact (hc.old _ (by simp)).1
   rcases List.mem_cons.1 hx with rfl|hx
   ·exact (hc.old _ (by simp)).1
   exact absurd hx List.not_mem_nil
  have hos9:∀ x,x∈([(x5_A3,x5_N3,x5_C3,x5_M3),(x5_A6,x5_N6,x5_C6,x5_M6),(yA4,yN4,yC4,yM4)]:Os)→x∈os9:=by
   intro x hx
   rcases List.mem_cons.1 hx with rfl|hx
   ·exact q3m
   rcases List.mem_cons.1 hx with rfl|hx
   ·exact q6m
   rcases List.mem_cons.1 hx with rfl|hx
   ·exact hc.oso _ (by simp)
   exact absurd hx List.not_mem_nil
  have hS:=hc.st.sub hbs9 (fun x hx=>hx) hos9
  have hsz9:=hc.sz
  rw [hS9z,hsW9] at hsz9
  clear hbs9 hos9 hc f0 f1 f2 f3 f4 f5 f6 f7 f8 f9 f11 o0_0 o0_1 g6_3 g7_3 g7_6 g8_7 g8_3 g8_6 g9_7 g9_3 g9_6 g10_8 g10_7 g10_3 g10_6 g11_7 g11_3 g11_6
  clear q3m q6m
  have hz5:=hsz9
  clear hsz9 hS9z hS9 hC9 hsW9
  have Qx5_3:=hide qx5_3
  clear qx5_3
  have Qx5_6:=hide qx5_6
  clear qx5_6
  have Qx5_7:=hide qx5_7
  clear qx5_7
  obtain ⟨⟨k0_0,k0_1,k0_2,-⟩,z0⟩:=hS.cz ⟨w.heap.size+1+1,#[.bool x5_Z7,.slice x5_A7 x5_N7 x5_C7,.slice x5_P7 x5_Q7 x5_R7],35⟩ (by simp)
  have z0_0:=z0 0
  have z0_1:=z0 1
  have z0_2:=z0 2
  clear z0
  simp only [] at k0_0 z0_0 k0_1 z0_1 k0_2 z0_2
  go_wp2
  have hend:=make_end hd (unhide Q4) (unhide Qx5_3) (unhide Qx5_6)
  have q7:=unhide Qx5_7
  have o1:=hS.ow (x5_A3,x5_N3,x5_C3,x5_M3) (by simp)
  have o2:=hS.ow (x5_A6,x5_N6,x5_C6,x5_M6) (by simp)
  have hbel:=But.gr (B:=w.heap.size) (gr_refl w) hS.fr (by omega) (Nat.le_refl _)
  refine bodyPost_ret (v:=.tuple #[.agg #[.bool x5_Z7,.slice x5_A7 x5_N7 x5_C7,.slice x5_P7 x5_Q7 x5_R7],.int .i64 x5_E7]) (by simp [results,Tryz.results36,go_sem,k0_0,k0_1,k0_2]) rfl ⟨?_,hbel⟩
  rcases q7 with ⟨h0,e1,e2,e3,e4,e5,e6,e7,e8⟩|⟨h0,e1,e2,e3,e4,e5,e6,e7,e8⟩
  ·obtain ⟨f1,f2⟩:=hend.1 h0
   have hz1:=o1.num.zero
   simp only [] at o1 o2 hz1
   rw [f1] at o1 hz1
   rw [f2] at o2
   rw [e1,e2,e3,e4,e5,e6,e7,e8]
   refine Or.inl ⟨_,_,_,_,_,_,?_,o1,o2⟩
   rw [show decide (x5_N3 = 0) = decide (_ = 0) from decide_eq_decide.2 hz1]
   all_goals rfl
  ·exact absurd (hend.2) h0
 ·simp
 ·exact ⟨⟨false,false,false,false,false,false,false,false,false,false,false,false,undef,undef,undef,undef,undef,undef,undef,undef,undef,undef,.int .i64 0,none,0,0,0,0,none,0,0,0,0,false,none,0,0,none,0,0,0,_,_⟩,rfl,rfl,⟨hC9,nb,nb,nb,nb,nb,nb,nb,nb,nb,nb,nb,(fun _=>by simp),nb,nb,nb,nb,nb,nb,nb,nb,nb,nb,nb,nb,nb,nb,nb,nb,nb⟩⟩
theorem quotient_any (s t:Bool) (a1 a2 a3 a4:Option Addr) (n1 n2 n3 n4 c1 c2 c3 c4 m1 d1 m2 d2:Nat) (x y:Rat) (w:World) (h1:Num w a1 n1 m1) (h2:Num w a2 n2 d1) (h3:Num w a3 n3 m2) (h4:Num w a4 n4 d2) (hx:Rm.Q x s m1 d1) (hy:Rm.Q y t m2 d2) (hz:decide (n3 = 0) = false) :
  Calls Tryz.prog 29 #[.agg #[.bool s,.slice a1 n1 c1,.slice a2 n2 c2,.bool t,.slice a3 n3 c3,.slice a4 n4 c4]] w fun en w'=>ROk w' w.heap.size en (x / y)∧Below w.heap.size w w':=by
 have hS:=Rs.begin w
 replace hS:=hS.num h1
 replace hS:=hS.num h2
 replace hS:=hS.num h3
 replace hS:=hS.num h4
 replace hS:=hS.alloc #[.bool s,.slice a1 n1 c1,.slice a2 n2 c2,.bool t,.slice a3 n3 c3,.slice a4 n4 c4] 76
 try simp only [World.size_alloc] at hS
 replace hS:=hS.alloc #[.bool false,.slice none 0 0,.slice none 0 0] 35
 try simp only [World.size_alloc] at hS
 go_enter Tryz.func29,Tryz.ntmps29
 go_wp2_with fail
 refine (nought_any a3 n3 c3 _).mono ?_
 rintro en w1 ⟨rfl,hb9⟩
 have hz1:=hb9.size
 replace hS:=hS.kept hb9
 clear hb9
 simp only [World.size_alloc] at hz1
 rw [hz]
 obtain ⟨⟨k0_0,k0_1,k0_2,k0_3,k0_4,k0_5,-⟩,z0⟩:=hS.cz ⟨w.heap.size,#[.bool s,.slice a1 n1 c1,.slice a2 n2 c2,.bool t,.slice a3 n3 c3,.slice a4 n4 c4],76⟩ (by simp)
 have z0_0:=z0 0
 have z0_1:=z0 1
 have z0_2:=z0 2
 have z0_3:=z0 3
 have z0_4:=z0 4
 have z0_5:=z0 5
 clear z0
 simp only [] at k0_0 z0_0 k0_1 z0_1 k0_2 z0_2 k0_3 z0_3 k0_4 z0_4 k0_5 z0_5
 have u1:=hS.cellAt (x:=⟨w.heap.size,#[.bool s,.slice a1 n1 c1,.slice a2 n2 c2,.bool t,.slice a3 n3 c3,.slice a4 n4 c4],76⟩) (by simp) 4 (.slice a3 n3 c3) rfl
 have y1:=hS.frozen (x:=⟨w.heap.size,#[.bool s,.slice a1 n1 c1,.slice a2 n2 c2,.bool t,.slice a3 n3 c3,.slice a4 n4 c4],76⟩) (by simp) 4
 simp only [] at u1 y1
 replace hS:=hS.put (x:=⟨w.heap.size,#[.bool s,.slice a1 n1 c1,.slice a2 n2 c2,.bool t,.slice a3 n3 c3,.slice a4 n4 c4],76⟩) (by simp) (by simp only []; omega) 4 (.slice a4 n4 c4) (by simp) [⟨w.heap.size,#[.bool s,.slice a1 n1 c1,.slice a2 n2 c2,.bool t,.slice a4 n4 c4,.slice a4 n4 c4],76⟩,⟨w.heap.size+1,#[.bool false,.slice none 0 0,.slice none 0 0],35⟩] (by intro y hy; rcases List.mem_cons.1 hy with rfl|hy; exact Or.inl rfl; rcases List.mem_cons.1 hy with rfl|hy; exact Or.inr ⟨by simp,by simp only []; omega⟩; exact absurd hy List.not_mem_nil)
 have u2:=hS.cellAt (x:=⟨w.heap.size,#[.bool s,.slice a1 n1 c1,.slice a2 n2 c2,.bool t,.slice a4 n4 c4,.slice a4 n4 c4],76⟩) (by simp) 5 (.slice a4 n4 c4) rfl
 have y2:=hS.frozen (x:=⟨w.heap.size,#[.bool s,.slice a1 n1 c1,.slice a2 n2 c2,.bool t,.slice a4 n4 c4,.slice a4 n4 c4],76⟩) (by simp) 5
 simp only [] at u2 y2
 replace hS:=hS.put (x:=⟨w.heap.size,#[.bool s,.slice a1 n1 c1,.slice a2 n2 c2,.bool t,.slice a4 n4 c4,.slice a4 n4 c4],76⟩) (by simp) (by simp only []; omega) 5 (.slice a3 n3 c3) (by simp) [⟨w.heap.size,#[.bool s,.slice a1 n1 c1,.slice a2 n2 c2,.bool t,.slice a4 n4 c4,.slice a3 n3 c3],76⟩,⟨w.heap.size+1,#[.bool false,.slice none 0 0,.slice none 0 0],35⟩] (by intro y hy; rcases List.mem_cons.1 hy with rfl|hy; exact Or.inl rfl; rcases List.mem_cons.1 hy with rfl|hy; exact Or.inr ⟨by simp,by simp only []; omega⟩; exact absurd hy List.not_mem_nil)
 have kx0:=hS.cellAt (x:=⟨w.heap.size,#[.bool s,.slice a1 n1 c1,.slice a2 n2 c2,.bool t,.slice a4 n4 c4,.slice a3 n3 c3],76⟩) (by simp) 0 (.bool s) rfl
 have kx1:=hS.cellAt (x:=⟨w.heap.size,#[.bool s,.slice a1 n1 c1,.slice a2 n2 c2,.bool t,.slice a4 n4 c4,.slice a3 n3 c3],76⟩) (by simp) 1 (.slice a1 n1 c1) rfl
 have kx2:=hS.cellAt (x:=⟨w.heap.size,#[.bool s,.slice a1 n1 c1,.slice a2 n2 c2,.bool t,.slice a4 n4 c4,.slice a3 n3 c3],76⟩) (by simp) 2 (.slice a2 n2 c2) rfl
 have kx3:=hS.cellAt (x:=⟨w.heap.size,#[.bool s,.slice a1 n1 c1,.slice a2 n2 c2,.bool t,.slice a4 n4 c4,.slice a3 n3 c3],76⟩) (by simp) 3 (.bool t) rfl
 have kx4:=hS.cellAt (x:=⟨w.heap.size,#[.bool s,.slice a1 n1 c1,.slice a2 n2 c2,.bool t,.slice a4 n4 c4,.slice a3 n3 c3],76⟩) (by simp) 4 (.slice a4 n4 c4) rfl
 have kx5:=hS.cellAt (x:=⟨w.heap.size,#[.bool s,.slice a1 n1 c1,.slice a2 n2 c2,.bool t,.slice a4 n4 c4,.slice a3 n3 c3],76⟩) (by simp) 5 (.slice a3 n3 c3) rfl
 simp only [] at kx0 kx1 kx2 kx3 kx4 kx5
 go_wp2_with fail
 clear k0_0 z0_0 k0_1 z0_1 k0_2 z0_2 k0_3 z0_3 k0_4 z0_4 k0_5 z0_5
 clear kx0 kx1 kx2 kx3 kx4 kx5
 have hinv:=hy.inv (fun e=>of_decide_eq_false hz (h3.zero.2 e))
 refine (product_rat s t a1 a2 a4 a3 n1 n2 n4 n3 c1 c2 c4 c3 x y⁻¹ _ ⟨hx.neg.symm,by rw [hx.abs]; exact (hS.nm (a1,n1,m1) (by simp)),by rw [hx.den]; exact (hS.nm (a2,n2,d1) (by simp))⟩ ⟨hinv.neg.symm,by rw [hinv.abs]; exact (hS.nm (a4,n4,d2) (by simp)),by rw [hinv.den]; exact (hS.nm (a3,n3,m2) (by simp))⟩).mono ?_
 rintro en w2 ⟨⟨s7,b7,k7,l7,b8,k8,l8,r7,rfl,hq⟩,hb9⟩
 have hz2:=hb9.size
 replace hS:=hS.kept hb9
 clear hb9
 have HQ:=hide hq
 clear hq
 replace hz2:w1.heap.size≤w2.heap.size:=by simpa [World.setCell] using hz2
 rw [show x * y⁻¹ = x / y from (Rat.div_def x y).symm] at HQ
 obtain ⟨⟨k0_0,k0_1,k0_2,-⟩,z0⟩:=hS.cz ⟨w.heap.size+1,#[.bool false,.slice none 0 0,.slice none 0 0],35⟩ (by simp)
 have z0_0:=z0 0
 have z0_1:=z0 1
 have z0_2:=z0 2
 clear z0
 simp only [] at k0_0 z0_0 k0_1 z0_1 k0_2 z0_2
 go_wp2
 have hq:=unhide HQ
 replace hS:=hS.sub (bs':=[⟨w.heap.size+1,#[.bool false,.slice none 0 0,.slice none 0 0],35⟩]) (ms':=[]) (by intro x hx; rcases List.mem_cons.1 hx with rfl|hx; simp; exact absurd hx List.not_mem_nil) (by intro x hx; exact absurd hx List.not_mem_nil) (fun x hx=>hx)
 replace hq:=hq.put (hS.bx ⟨w.heap.size+1,#[.bool false,.slice none 0 0,.slice none 0 0],35⟩ (by simp)).1 (hS.bx ⟨w.heap.size+1,#[.bool false,.slice none 0 0,.slice none 0 0],35⟩ (by simp)).2.2.1 0 (.bool s7)
 have u3:=hS.cellAt (x:=⟨w.heap.size+1,#[.bool false,.slice none 0 0,.slice none 0 0],35⟩) (by simp) 0 (.bool false) rfl
 have y3:=hS.frozen (x:=⟨w.heap.size+1,#[.bool false,.slice none 0 0,.slice none 0 0],35⟩) (by simp) 0
 simp only [] at u3 y3
 replace hS:=hS.put (x:=⟨w.heap.size+1,#[.bool false,.slice none 0 0,.slice none 0 0],35⟩) (by simp) (by simp only []; omega) 0 (.bool s7) (by simp) [⟨w.heap.size+1,#[.bool s7,.slice none 0 0,.slice none 0 0],35⟩] (by intro y hy; rcases List.mem_cons.1 hy with rfl|hy; exact Or.inl rfl; exact absurd hy List.not_mem_nil)
 replace hq:=hq.put (hS.bx ⟨w.heap.size+1,#[.bool s7,.slice none 0 0,.slice none 0 0],35⟩ (by simp)).1 (hS.bx ⟨w.heap.size+1,#[.bool s7,.slice none 0 0,.slice none 0 0],35⟩ (by simp)).2.2.1 1 (.slice b7 k7 l7)
 have u4:=hS.cellAt (x:=⟨w.heap.size+1,#[.bool s7,.slice none 0 0,.slice none 0 0],35⟩) (by simp) 1 (.slice none 0 0) rfl
 have y4:=hS.frozen (x:=⟨w.heap.size+1,#[.bool s7,.slice none 0 0,.slice none 0 0],35⟩) (by simp) 1
 simp only [] at u4 y4
 replace hS:=hS.put (x:=⟨w.heap.size+1,#[.bool s7,.slice none 0 0,.slice none 0 0],35⟩) (by simp) (by simp only []; omega) 1 (.slice b7 k7 l7) (by simp) [⟨w.heap.size+1,#[.bool s7,.slice b7 k7 l7,.slice none 0 0],35⟩] (by intro y hy; rcases List.mem_cons.1 hy with rfl|hy; exact Or.inl rfl; exact absurd hy List.not_mem_nil)
 replace hq:=hq.put (hS.bx ⟨w.heap.size+1,#[.bool s7,.slice b7 k7 l7,.slice none 0 0],35⟩ (by simp)).1 (hS.bx ⟨w.heap.size+1,#[.bool s7,.slice b7 k7 l7,.slice none 0 0],35⟩ (by simp)).2.2.1 2 (.slice b8 k8 l8)
 have u5:=hS.cellAt (x:=⟨w.heap.size+1,#[.bool s7,.slice b7 k7 l7,.slice none 0 0],35⟩) (by simp) 2 (.slice none 0 0) rfl
 have y5:=hS.frozen (x:=⟨w.heap.size+1,#[.bool s7,.slice b7 k7 l7,.slice none 0 0],35⟩) (by simp) 2
 simp only [] at u5 y5
 replace hS:=hS.put (x:=⟨w.heap.size+1,#[.bool s7,.slice b7 k7 l7,.slice none 0 0],35⟩) (by simp) (by simp only []; omega) 2 (.slice b8 k8 l8) (by simp) [⟨w.heap.size+1,#[.bool s7,.slice b7 k7 l7,.slice b8 k8 l8],35⟩] (by intro y hy; rcases List.mem_cons.1 hy with rfl|hy; exact Or.inl rfl; exact absurd hy List.not_mem_nil)
 exact bodyPost_ret (v:=.tuple #[.agg #[.bool s7,.slice b7 k7 l7,.slice b8 k8 l8],.int .i64 r7]) (by simp [results,Tryz.results29,go_sem,k0_0,k0_1,k0_2]) rfl ⟨⟨_,_,_,_,_,_,_,_,rfl,hq.mono (by first|omega|(simp only [World.size_alloc]; omega)|(simp [World.setCell]; done)|(simp [World.setCell]; omega))⟩,hS.fr⟩
end Go.Proofs.YtbbhlfngjoongaaGreatDoor
