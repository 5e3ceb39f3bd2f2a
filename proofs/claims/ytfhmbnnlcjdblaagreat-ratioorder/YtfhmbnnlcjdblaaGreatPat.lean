/- Of what RatioOrderRow stands on: RSplitS. -/
import Derived.Test.YtfhmbnnlcjdblaaGreatPas
namespace Go.Proofs.YtfhmbnnlcjdblaaGreat
open Go.RowKit
set_option maxHeartbeats 16000000
set_option maxRecDepth 20000
structure SplS12S where
 (b0 b1 b2 b3 b4 b5 b6 b7 b8 b9:Bool)
 (v0 v1 v2 v3 v4 v5 v6 v7 v8:Value)
 bs9:List En
 os9:Os
structure SplS12R (w:World) (p:Nat) (s:Bool) (a1 a2 a3 a4:Option Addr) (n1 n2 n3 n4 c1 c2 c3 c4:Nat) (yA1:Option Addr) (yN1 yC1 yM1:Nat) (yP1:Option Addr) (yG1 yR1:Nat) (w1:World) (yA2:Option Addr) (yN2 yC2 yM2:Nat) (yP2:Option Addr) (yG2 yR2:Nat) (w2:World) (yA3:Option Addr) (yN3 yC3:Nat) (w3:World) (x4_A5:Option Addr) (x4_N5:Nat) (x4_C5:Nat) (x4_A11:Option Addr) (x4_N11:Nat) (x4_C11:Nat) (x4_g12:Nat) (x4_g13:Nat) (yA5:Option Addr) (yN5 yC5:Nat) (yP5:Option Addr) (yG5 yR5:Nat) (w5:World) (yA6:Option Addr) (yN6 yC6:Nat) (yP6:Option Addr) (yG6 yR6:Nat) (w6:World) (yA7:Option Addr) (yN7 yC7:Nat) (x8_A4:Option Addr) (x8_N4:Nat) (x8_C4:Nat) (x8_A6:Option Addr) (x8_N6:Nat) (x8_C6:Nat) (x8_g7:Nat) (x9_A7:Option Addr) (x9_N7:Nat) (x9_C7:Nat) (x9_A8:Option Addr) (x9_N8:Nat) (x9_C8:Nat) (x9_M8:Nat) (x9_g9:Nat) (yA10:Option Addr) (yN10 yC10 yM10:Nat) (yP10:Option Addr) (yG10 yR10 yL10:Nat) (w10:World) (yA11:Option Addr) (yN11 yC11 yM11:Nat) (yP11:Option Addr) (yG11 yR11:Nat) (yE11:Int) (w11:World) (S9:Nat) (b0 b1 b2 b3 b4 b5 b6 b7 b8 b9:Bool) (v0 v1 v2 v3 v4 v5 v6 v7 v8:Value)  (bs9:List En) (os9:Os) (w':World):Prop where
 hc:Rc w S9 [⟨w11.heap.size,#[.slice yA11 yN11 yC11],27⟩,⟨w10.heap.size+1,#[.slice yP10 yG10 yR10],27⟩,⟨w10.heap.size,#[.slice yA10 yN10 yC10],27⟩,⟨x9_g9,#[.slice x9_A8 x9_N8 x9_C8],27⟩,⟨w2.heap.size,#[.slice yA2 yN2 yC2],27⟩,⟨w1.heap.size,#[.slice yA1 yN1 yC1],27⟩] [] [(yA11,yN11,yC11,yM11),(yP10,yG10,yR10,yL10),(yA10,yN10,yC10,yM10),(x9_A8,x9_N8,x9_C8,x9_M8),(yA2,yN2,yC2,yM2),(yA1,yN1,yC1,yM1)] (some ((p),yE11)) bs9 os9 w'
 f0:b0 = true→v0 = .agg #[.slice yA1 yN1 yC1]
 f1:b1 = true→v1 = .agg #[.slice yA2 yN2 yC2]
 f2:b2 = true→v2 = .agg #[.slice yA10 yN10 yC10]
 f3:b3 = true→v3 = .agg #[.slice yA11 yN11 yC11]
 f4:b4 = true→v4 = .agg #[.slice x9_A8 x9_N8 x9_C8]
 f5:b5 = true→v5 = .agg #[.slice yP10 yG10 yR10]
 f6:b6 = true→v6 = .bool (decide (yG10 = 0))
 f7:b7 = true→v7 = .bool (!(decide (yG10 = 0)))
 f8:b8 = true→v8 = .agg #[.slice yA1 yN1 yC1,.slice yA2 yN2 yC2,.slice yA10 yN10 yC10,.slice yA11 yN11 yC11,.slice x9_A8 x9_N8 x9_C8,.bool (!(decide (yG10 = 0)))]
 o0_0:b9 = false→⟨w.heap.size+1,#[.slice none 0 0,.slice none 0 0,.slice none 0 0,.slice none 0 0,.slice none 0 0,.bool false],111⟩∈bs9
 o0_1:b9 = true→⟨w.heap.size+1,#[.slice yA1 yN1 yC1,.slice yA2 yN2 yC2,.slice yA10 yN10 yC10,.slice yA11 yN11 yC11,.slice x9_A8 x9_N8 x9_C8,.bool (!(decide (yG10 = 0)))],111⟩∈bs9
 g9_8:b9 = true→b8 = true
def SplS12I (w:World) (p:Nat) (s:Bool) (a1 a2 a3 a4:Option Addr) (n1 n2 n3 n4 c1 c2 c3 c4:Nat) (yA1:Option Addr) (yN1 yC1 yM1:Nat) (yP1:Option Addr) (yG1 yR1:Nat) (w1:World) (yA2:Option Addr) (yN2 yC2 yM2:Nat) (yP2:Option Addr) (yG2 yR2:Nat) (w2:World) (yA3:Option Addr) (yN3 yC3:Nat) (w3:World) (x4_A5:Option Addr) (x4_N5:Nat) (x4_C5:Nat) (x4_A11:Option Addr) (x4_N11:Nat) (x4_C11:Nat) (x4_g12:Nat) (x4_g13:Nat) (yA5:Option Addr) (yN5 yC5:Nat) (yP5:Option Addr) (yG5 yR5:Nat) (w5:World) (yA6:Option Addr) (yN6 yC6:Nat) (yP6:Option Addr) (yG6 yR6:Nat) (w6:World) (yA7:Option Addr) (yN7 yC7:Nat) (x8_A4:Option Addr) (x8_N4:Nat) (x8_C4:Nat) (x8_A6:Option Addr) (x8_N6:Nat) (x8_C6:Nat) (x8_g7:Nat) (x9_A7:Option Addr) (x9_N7:Nat) (x9_C7:Nat) (x9_A8:Option Addr) (x9_N8:Nat) (x9_C8:Nat) (x9_M8:Nat) (x9_g9:Nat) (yA10:Option Addr) (yN10 yC10 yM10:Nat) (yP10:Option Addr) (yG10 yR10 yL10:Nat) (w10:World) (yA11:Option Addr) (yN11 yC11 yM11:Nat) (yP11:Option Addr) (yG11 yR11:Nat) (yE11:Int) (w11:World) (S9:Nat) (l:Array Bool) (act:Act) (w':World):SplS12S→Prop
 | ⟨b0,b1,b2,b3,b4,b5,b6,b7,b8,b9,v0,v1,v2,v3,v4,v5,v6,v7,v8,bs9,os9⟩=>l = #[b0,b1,b2,b3,b4,b5,b6,b7,b8,b9]∧act = { tmps:=#[.pointer (some ⟨p,0,none⟩),.agg #[.bool s,.slice a1 n1 c1,.slice a2 n2 c2,.bool s,.slice a3 n3 c3,.slice a4 n4 c4],undef,.pointer (some ⟨w.heap.size,0,none⟩),.pointer (some ⟨w.heap.size+1,0,none⟩),.pointer (some ⟨w1.heap.size,0,none⟩),.pointer (some ⟨w1.heap.size+1,0,none⟩),.pointer (some ⟨w2.heap.size,0,none⟩),.pointer (some ⟨w2.heap.size+1,0,none⟩),.pointer (some ⟨w3.heap.size,0,none⟩),.pointer (some ⟨x4_g12,0,none⟩),.pointer (some ⟨x4_g13,0,none⟩),.pointer (some ⟨w5.heap.size,0,none⟩),.pointer (some ⟨w5.heap.size+1,0,none⟩),.pointer (some ⟨w6.heap.size,0,none⟩),.pointer (some ⟨w6.heap.size+1,0,none⟩),.pointer (some ⟨x8_g7,0,none⟩),.pointer (some ⟨x9_g9,0,none⟩),.pointer (some ⟨w10.heap.size,0,none⟩),.pointer (some ⟨w10.heap.size+1,0,none⟩),.pointer (some ⟨w11.heap.size,0,none⟩),.pointer (some ⟨w11.heap.size+1,0,none⟩),.tuple #[.agg #[.slice yA1 yN1 yC1],.agg #[.slice yP1 yG1 yR1]],.pointer (some ⟨p,0,none⟩),.pointer (some ⟨w.heap.size,0,none⟩),.pointer (some ⟨w.heap.size,1,none⟩),.agg #[.slice a1 n1 c1],.pointer (some ⟨w.heap.size,0,none⟩),.pointer (some ⟨w.heap.size,2,none⟩),.agg #[.slice a2 n2 c2],.tuple #[.agg #[.slice yA1 yN1 yC1],.agg #[.slice yP1 yG1 yR1]],.agg #[.slice yA1 yN1 yC1],.agg #[.slice yP1 yG1 yR1],.tuple #[.agg #[.slice yA2 yN2 yC2],.agg #[.slice yP2 yG2 yR2]],.pointer (some ⟨p,0,none⟩),.pointer (some ⟨w.heap.size,3,none⟩),.pointer (some ⟨w.heap.size,4,none⟩),.agg #[.slice a3 n3 c3],.pointer (some ⟨w.heap.size,3,none⟩),.pointer (some ⟨w.heap.size,5,none⟩),.agg #[.slice a4 n4 c4],.tuple #[.agg #[.slice yA2 yN2 yC2],.agg #[.slice yP2 yG2 yR2]],.agg #[.slice yA2 yN2 yC2],.agg #[.slice yP2 yG2 yR2],.pointer (some ⟨p,0,none⟩),.pointer (some ⟨w.heap.size,0,none⟩),.pointer (some ⟨w.heap.size,2,none⟩),.agg #[.slice a2 n2 c2],.pointer (some ⟨w.heap.size,3,none⟩),.pointer (some ⟨w.heap.size,5,none⟩),.agg #[.slice a4 n4 c4],.agg #[.slice yA3 yN3 yC3],.pointer (some ⟨p,0,none⟩),.pointer (some ⟨w.heap.size,3,none⟩),.pointer (some ⟨w.heap.size,5,none⟩),.agg #[.slice a4 n4 c4],.agg #[.slice yA3 yN3 yC3],.agg #[.slice x4_A5 x4_N5 x4_C5],.pointer (some ⟨p,0,none⟩),.pointer (some ⟨w.heap.size,0,none⟩),.pointer (some ⟨w.heap.size,2,none⟩),.agg #[.slice a2 n2 c2],.agg #[.slice yA3 yN3 yC3],.agg #[.slice x4_A11 x4_N11 x4_C11],.tuple #[.agg #[.slice yA5 yN5 yC5],.agg #[.slice yP5 yG5 yR5]],.pointer (some ⟨p,0,none⟩),.agg #[.slice yP1 yG1 yR1],.agg #[.slice x4_A5 x4_N5 x4_C5],.agg #[.slice yA3 yN3 yC3],.tuple #[.agg #[.slice yA5 yN5 yC5],.agg #[.slice yP5 yG5 yR5]],.agg #[.slice yA5 yN5 yC5],.agg #[.slice yP5 yG5 yR5],.tuple #[.agg #[.slice yA6 yN6 yC6],.agg #[.slice yP6 yG6 yR6]],.pointer (some ⟨p,0,none⟩),.agg #[.slice yP2 yG2 yR2],.agg #[.slice x4_A11 x4_N11 x4_C11],.agg #[.slice yA3 yN3 yC3],.tuple #[.agg #[.slice yA6 yN6 yC6],.agg #[.slice yP6 yG6 yR6]],.agg #[.slice yA6 yN6 yC6],.agg #[.slice yP6 yG6 yR6],.pointer (some ⟨w.heap.size,0,none⟩),.pointer (some ⟨w.heap.size,0,none⟩),.bool s,.pointer (some ⟨w.heap.size,3,none⟩),.pointer (some ⟨w.heap.size,3,none⟩),.bool s,.bool true,.pointer (some ⟨p,0,none⟩),.agg #[.slice yA3 yN3 yC3],.agg #[.slice yP6 yG6 yR6],.agg #[.slice yA7 yN7 yC7],.pointer (some ⟨p,0,none⟩),.pointer (some ⟨p,0,none⟩),.agg #[.slice yP5 yG5 yR5],.agg #[.slice yA7 yN7 yC7],.agg #[.slice x8_A4 x8_N4 x8_C4],.agg #[.slice yA3 yN3 yC3],.agg #[.slice x8_A6 x8_N6 x8_C6],.pointer (some ⟨p,0,none⟩),.agg #[.slice x4_A11 x4_N11 x4_C11],.pointer (some ⟨p,0,none⟩),.pointer (some ⟨w.heap.size,3,none⟩),.pointer (some ⟨w.heap.size,5,none⟩),.agg #[.slice a4 n4 c4],.agg #[.slice x8_A6 x8_N6 x8_C6],.agg #[.slice x9_A7 x9_N7 x9_C7],.agg #[.slice x9_A8 x9_N8 x9_C8],.tuple #[.agg #[.slice yA10 yN10 yC10],.agg #[.slice yP10 yG10 yR10]],.pointer (some ⟨p,0,none⟩),.agg #[.slice yP1 yG1 yR1],.agg #[.slice x4_A5 x4_N5 x4_C5],.agg #[.slice x8_A6 x8_N6 x8_C6],.tuple #[.agg #[.slice yA10 yN10 yC10],.agg #[.slice yP10 yG10 yR10]],.agg #[.slice yA10 yN10 yC10],.agg #[.slice yP10 yG10 yR10],.tuple #[.agg #[.slice yA11 yN11 yC11],.agg #[.slice yP11 yG11 yR11]],.pointer (some ⟨p,0,none⟩),.agg #[.slice yP2 yG2 yR2],.agg #[.slice x4_A11 x4_N11 x4_C11],.agg #[.slice x8_A6 x8_N6 x8_C6],.tuple #[.agg #[.slice yA11 yN11 yC11],.agg #[.slice yP11 yG11 yR11]],.agg #[.slice yA11 yN11 yC11],.agg #[.slice yP11 yG11 yR11],v0,v1,v2,v3,v4,v5,v6,v7,v8],defers:=[] }∧SplS12R w p s a1 a2 a3 a4 n1 n2 n3 n4 c1 c2 c3 c4 yA1 yN1 yC1 yM1 yP1 yG1 yR1 w1 yA2 yN2 yC2 yM2 yP2 yG2 yR2 w2 yA3 yN3 yC3 w3 x4_A5 x4_N5 x4_C5 x4_A11 x4_N11 x4_C11 x4_g12 x4_g13 yA5 yN5 yC5 yP5 yG5 yR5 w5 yA6 yN6 yC6 yP6 yG6 yR6 w6 yA7 yN7 yC7 x8_A4 x8_N4 x8_C4 x8_A6 x8_N6 x8_C6 x8_g7 x9_A7 x9_N7 x9_C7 x9_A8 x9_N8 x9_C8 x9_M8 x9_g9 yA10 yN10 yC10 yM10 yP10 yG10 yR10 yL10 w10 yA11 yN11 yC11 yM11 yP11 yG11 yR11 yE11 w11 S9 b0 b1 b2 b3 b4 b5 b6 b7 b8 b9 v0 v1 v2 v3 v4 v5 v6 v7 v8 bs9 os9 w'
structure SplS9S where
 (b0 b1 b2 b3 b4 b5 b6 b7 b8 b9 b10:Bool)
 (v0 v1 v2 v3 v4 v5 v6 v7 v8 v9:Value)
 (A7:Option Addr)
 (N7 C7:Nat)
 (M7:Nat)
 (E7:Int)
 (A8:Option Addr)
 (N8 C8:Nat)
 (M8:Nat)
 (E8:Int)
 bs9:List En
 os9:Os
structure SplS9R (w:World) (p:Nat) (s:Bool) (a1 a2 a3 a4:Option Addr) (n1 n2 n3 n4 c1 c2 c3 c4 m1 d1 m2 d2:Nat) (yA1:Option Addr) (yN1 yC1 yM1:Nat) (yP1:Option Addr) (yG1 yR1 yL1:Nat) (w1:World) (yA2:Option Addr) (yN2 yC2 yM2:Nat) (yP2:Option Addr) (yG2 yR2 yL2:Nat) (w2:World) (yA3:Option Addr) (yN3 yC3:Nat) (w3:World) (x4_A5:Option Addr) (x4_N5:Nat) (x4_C5:Nat) (x4_M5:Nat) (x4_A11:Option Addr) (x4_N11:Nat) (x4_C11:Nat) (x4_M11:Nat) (x4_g12:Nat) (x4_g13:Nat) (yA5:Option Addr) (yN5 yC5:Nat) (yP5:Option Addr) (yG5 yR5:Nat) (w5:World) (yA6:Option Addr) (yN6 yC6:Nat) (yP6:Option Addr) (yG6 yR6:Nat) (w6:World) (yA7:Option Addr) (yN7 yC7:Nat) (x8_A4:Option Addr) (x8_N4:Nat) (x8_C4:Nat) (x8_A6:Option Addr) (x8_N6:Nat) (x8_C6:Nat) (x8_M6:Nat) (x8_E6:Int) (x8_g7:Nat) (S9:Nat) (b0 b1 b2 b3 b4 b5 b6 b7 b8 b9 b10:Bool) (v0 v1 v2 v3 v4 v5 v6 v7 v8 v9:Value) (A7:Option Addr) (N7 C7:Nat) (M7:Nat) (E7:Int) (A8:Option Addr) (N8 C8:Nat) (M8:Nat) (E8:Int) (bs9:List En) (os9:Os) (w':World):Prop where
 hc:Rc w S9 [⟨x8_g7,#[.slice x8_A6 x8_N6 x8_C6],27⟩,⟨x4_g13,#[.slice x4_A11 x4_N11 x4_C11],27⟩,⟨x4_g12,#[.slice x4_A5 x4_N5 x4_C5],27⟩,⟨w2.heap.size+1,#[.slice yP2 yG2 yR2],27⟩,⟨w2.heap.size,#[.slice yA2 yN2 yC2],27⟩,⟨w1.heap.size+1,#[.slice yP1 yG1 yR1],27⟩,⟨w1.heap.size,#[.slice yA1 yN1 yC1],27⟩,⟨w.heap.size+1,#[.slice none 0 0,.slice none 0 0,.slice none 0 0,.slice none 0 0,.slice none 0 0,.bool false],111⟩,⟨w.heap.size,#[.bool s,.slice a1 n1 c1,.slice a2 n2 c2,.bool s,.slice a3 n3 c3,.slice a4 n4 c4],52⟩] [(a4,n4,d2),(a3,n3,m2),(a2,n2,d1),(a1,n1,m1)] [(x8_A6,x8_N6,x8_C6,x8_M6),(x4_A5,x4_N5,x4_C5,x4_M5),(x4_A11,x4_N11,x4_C11,x4_M11),(yP2,yG2,yR2,yL2),(yA2,yN2,yC2,yM2),(yP1,yG1,yR1,yL1),(yA1,yN1,yC1,yM1)] (some ((p),(cond b8 E8 (cond b7 E7 x8_E6)))) bs9 os9 w'
 f0:b0 = true→v0 = .pointer (some ⟨p,0,none⟩)
 f1:b1 = true→v1 = .agg #[.slice x4_A11 x4_N11 x4_C11]
 f2:b2 = true→v2 = .pointer (some ⟨p,0,none⟩)
 f3:b3 = true→v3 = .pointer (some ⟨w.heap.size,3,none⟩)
 f4:b4 = true→v4 = .pointer (some ⟨w.heap.size,5,none⟩)
 f5:b5 = true→v5 = .agg #[.slice a4 n4 c4]
 f6:b6 = true→v6 = .agg #[.slice x8_A6 x8_N6 x8_C6]
 f7:b7 = true→v7 = .agg #[.slice A7 N7 C7]∧(A7,N7,C7,M7)∈os9∧(∃ R,Wd x8_E6 E7 M7 R d2 x8_M6)
 f8:b8 = true→v8 = .agg #[.slice A8 N8 C8]∧(A8,N8,C8,M8)∈os9∧Wz E7 E8 M8 (x4_M11 * M7) (Over (x4_M11 * M7))
 f9:b9 = true→AlV bs9 S9 v9 27
 f10:b10 = true→StV bs9 S9 v9 v8 27
 g8_7:b8 = true→b7 = true
 g10_9:b10 = true→b9 = true
 g10_8:b10 = true→b8 = true
 g10_7:b10 = true→b7 = true
def SplS9I (w:World) (p:Nat) (s:Bool) (a1 a2 a3 a4:Option Addr) (n1 n2 n3 n4 c1 c2 c3 c4 m1 d1 m2 d2:Nat) (yA1:Option Addr) (yN1 yC1 yM1:Nat) (yP1:Option Addr) (yG1 yR1 yL1:Nat) (w1:World) (yA2:Option Addr) (yN2 yC2 yM2:Nat) (yP2:Option Addr) (yG2 yR2 yL2:Nat) (w2:World) (yA3:Option Addr) (yN3 yC3:Nat) (w3:World) (x4_A5:Option Addr) (x4_N5:Nat) (x4_C5:Nat) (x4_M5:Nat) (x4_A11:Option Addr) (x4_N11:Nat) (x4_C11:Nat) (x4_M11:Nat) (x4_g12:Nat) (x4_g13:Nat) (yA5:Option Addr) (yN5 yC5:Nat) (yP5:Option Addr) (yG5 yR5:Nat) (w5:World) (yA6:Option Addr) (yN6 yC6:Nat) (yP6:Option Addr) (yG6 yR6:Nat) (w6:World) (yA7:Option Addr) (yN7 yC7:Nat) (x8_A4:Option Addr) (x8_N4:Nat) (x8_C4:Nat) (x8_A6:Option Addr) (x8_N6:Nat) (x8_C6:Nat) (x8_M6:Nat) (x8_E6:Int) (x8_g7:Nat) (S9:Nat) (l:Array Bool) (act:Act) (w':World):SplS9S→Prop
 | ⟨b0,b1,b2,b3,b4,b5,b6,b7,b8,b9,b10,v0,v1,v2,v3,v4,v5,v6,v7,v8,v9,A7,N7,C7,M7,E7,A8,N8,C8,M8,E8,bs9,os9⟩=>l = #[b0,b1,b2,b3,b4,b5,b6,b7,b8,b9,b10]∧act = { tmps:=#[.pointer (some ⟨p,0,none⟩),.agg #[.bool s,.slice a1 n1 c1,.slice a2 n2 c2,.bool s,.slice a3 n3 c3,.slice a4 n4 c4],undef,.pointer (some ⟨w.heap.size,0,none⟩),.pointer (some ⟨w.heap.size+1,0,none⟩),.pointer (some ⟨w1.heap.size,0,none⟩),.pointer (some ⟨w1.heap.size+1,0,none⟩),.pointer (some ⟨w2.heap.size,0,none⟩),.pointer (some ⟨w2.heap.size+1,0,none⟩),.pointer (some ⟨w3.heap.size,0,none⟩),.pointer (some ⟨x4_g12,0,none⟩),.pointer (some ⟨x4_g13,0,none⟩),.pointer (some ⟨w5.heap.size,0,none⟩),.pointer (some ⟨w5.heap.size+1,0,none⟩),.pointer (some ⟨w6.heap.size,0,none⟩),.pointer (some ⟨w6.heap.size+1,0,none⟩),.pointer (some ⟨x8_g7,0,none⟩),v9,undef,undef,undef,undef,.tuple #[.agg #[.slice yA1 yN1 yC1],.agg #[.slice yP1 yG1 yR1]],.pointer (some ⟨p,0,none⟩),.pointer (some ⟨w.heap.size,0,none⟩),.pointer (some ⟨w.heap.size,1,none⟩),.agg #[.slice a1 n1 c1],.pointer (some ⟨w.heap.size,0,none⟩),.pointer (some ⟨w.heap.size,2,none⟩),.agg #[.slice a2 n2 c2],.tuple #[.agg #[.slice yA1 yN1 yC1],.agg #[.slice yP1 yG1 yR1]],.agg #[.slice yA1 yN1 yC1],.agg #[.slice yP1 yG1 yR1],.tuple #[.agg #[.slice yA2 yN2 yC2],.agg #[.slice yP2 yG2 yR2]],.pointer (some ⟨p,0,none⟩),.pointer (some ⟨w.heap.size,3,none⟩),.pointer (some ⟨w.heap.size,4,none⟩),.agg #[.slice a3 n3 c3],.pointer (some ⟨w.heap.size,3,none⟩),.pointer (some ⟨w.heap.size,5,none⟩),.agg #[.slice a4 n4 c4],.tuple #[.agg #[.slice yA2 yN2 yC2],.agg #[.slice yP2 yG2 yR2]],.agg #[.slice yA2 yN2 yC2],.agg #[.slice yP2 yG2 yR2],.pointer (some ⟨p,0,none⟩),.pointer (some ⟨w.heap.size,0,none⟩),.pointer (some ⟨w.heap.size,2,none⟩),.agg #[.slice a2 n2 c2],.pointer (some ⟨w.heap.size,3,none⟩),.pointer (some ⟨w.heap.size,5,none⟩),.agg #[.slice a4 n4 c4],.agg #[.slice yA3 yN3 yC3],.pointer (some ⟨p,0,none⟩),.pointer (some ⟨w.heap.size,3,none⟩),.pointer (some ⟨w.heap.size,5,none⟩),.agg #[.slice a4 n4 c4],.agg #[.slice yA3 yN3 yC3],.agg #[.slice x4_A5 x4_N5 x4_C5],.pointer (some ⟨p,0,none⟩),.pointer (some ⟨w.heap.size,0,none⟩),.pointer (some ⟨w.heap.size,2,none⟩),.agg #[.slice a2 n2 c2],.agg #[.slice yA3 yN3 yC3],.agg #[.slice x4_A11 x4_N11 x4_C11],.tuple #[.agg #[.slice yA5 yN5 yC5],.agg #[.slice yP5 yG5 yR5]],.pointer (some ⟨p,0,none⟩),.agg #[.slice yP1 yG1 yR1],.agg #[.slice x4_A5 x4_N5 x4_C5],.agg #[.slice yA3 yN3 yC3],.tuple #[.agg #[.slice yA5 yN5 yC5],.agg #[.slice yP5 yG5 yR5]],.agg #[.slice yA5 yN5 yC5],.agg #[.slice yP5 yG5 yR5],.tuple #[.agg #[.slice yA6 yN6 yC6],.agg #[.slice yP6 yG6 yR6]],.pointer (some ⟨p,0,none⟩),.agg #[.slice yP2 yG2 yR2],.agg #[.slice x4_A11 x4_N11 x4_C11],.agg #[.slice yA3 yN3 yC3],.tuple #[.agg #[.slice yA6 yN6 yC6],.agg #[.slice yP6 yG6 yR6]],.agg #[.slice yA6 yN6 yC6],.agg #[.slice yP6 yG6 yR6],.pointer (some ⟨w.heap.size,0,none⟩),.pointer (some ⟨w.heap.size,0,none⟩),.bool s,.pointer (some ⟨w.heap.size,3,none⟩),.pointer (some ⟨w.heap.size,3,none⟩),.bool s,.bool true,.pointer (some ⟨p,0,none⟩),.agg #[.slice yA3 yN3 yC3],.agg #[.slice yP6 yG6 yR6],.agg #[.slice yA7 yN7 yC7],.pointer (some ⟨p,0,none⟩),.pointer (some ⟨p,0,none⟩),.agg #[.slice yP5 yG5 yR5],.agg #[.slice yA7 yN7 yC7],.agg #[.slice x8_A4 x8_N4 x8_C4],.agg #[.slice yA3 yN3 yC3],.agg #[.slice x8_A6 x8_N6 x8_C6],v0,v1,v2,v3,v4,v5,v6,v7,v8,undef,undef,undef,undef,undef,undef,undef,undef,undef,undef,undef,undef,undef,undef,undef,undef,undef,undef,undef,undef,undef,undef,undef,undef,undef],defers:=[] }∧SplS9R w p s a1 a2 a3 a4 n1 n2 n3 n4 c1 c2 c3 c4 m1 d1 m2 d2 yA1 yN1 yC1 yM1 yP1 yG1 yR1 yL1 w1 yA2 yN2 yC2 yM2 yP2 yG2 yR2 yL2 w2 yA3 yN3 yC3 w3 x4_A5 x4_N5 x4_C5 x4_M5 x4_A11 x4_N11 x4_C11 x4_M11 x4_g12 x4_g13 yA5 yN5 yC5 yP5 yG5 yR5 w5 yA6 yN6 yC6 yP6 yG6 yR6 w6 yA7 yN7 yC7 x8_A4 x8_N4 x8_C4 x8_A6 x8_N6 x8_C6 x8_M6 x8_E6 x8_g7 S9 b0 b1 b2 b3 b4 b5 b6 b7 b8 b9 b10 v0 v1 v2 v3 v4 v5 v6 v7 v8 v9 A7 N7 C7 M7 E7 A8 N8 C8 M8 E8 bs9 os9 w'
structure SplS8S where
 (b0 b1 b2 b3 b4 b5 b6 b7 b8:Bool)
 (v0 v1 v2 v3 v4 v5 v6 v7:Value)
 (A4:Option Addr)
 (N4 C4:Nat)
 (M4:Nat)
 (E4:Int)
 (A6:Option Addr)
 (N6 C6:Nat)
 (M6:Nat)
 (E6:Int)
 bs9:List En
 os9:Os
structure SplS8R (w:World) (p:Nat) (s:Bool) (a1 a2 a3 a4:Option Addr) (n1 n2 n3 n4 c1 c2 c3 c4 m1 d1 m2 d2:Nat) (yA1:Option Addr) (yN1 yC1 yM1:Nat) (yP1:Option Addr) (yG1 yR1 yL1:Nat) (w1:World) (yA2:Option Addr) (yN2 yC2 yM2:Nat) (yP2:Option Addr) (yG2 yR2 yL2:Nat) (w2:World) (yA3:Option Addr) (yN3 yC3 yM3:Nat) (w3:World) (x4_A5:Option Addr) (x4_N5:Nat) (x4_C5:Nat) (x4_M5:Nat) (x4_A11:Option Addr) (x4_N11:Nat) (x4_C11:Nat) (x4_M11:Nat) (x4_g12:Nat) (x4_g13:Nat) (yA5:Option Addr) (yN5 yC5:Nat) (yP5:Option Addr) (yG5 yR5 yL5:Nat) (w5:World) (yA6:Option Addr) (yN6 yC6:Nat) (yP6:Option Addr) (yG6 yR6:Nat) (w6:World) (yA7:Option Addr) (yN7 yC7 yM7:Nat) (yE7:Int) (S9:Nat) (b0 b1 b2 b3 b4 b5 b6 b7 b8:Bool) (v0 v1 v2 v3 v4 v5 v6 v7:Value) (A4:Option Addr) (N4 C4:Nat) (M4:Nat) (E4:Int) (A6:Option Addr) (N6 C6:Nat) (M6:Nat) (E6:Int) (bs9:List En) (os9:Os) (w':World):Prop where
 hc:Rc w S9 [⟨w6.heap.size+1,#[.slice yA7 yN7 yC7],27⟩,⟨w5.heap.size+1,#[.slice yP5 yG5 yR5],27⟩,⟨x4_g13,#[.slice x4_A11 x4_N11 x4_C11],27⟩,⟨x4_g12,#[.slice x4_A5 x4_N5 x4_C5],27⟩,⟨w3.heap.size,#[.slice yA3 yN3 yC3],27⟩,⟨w2.heap.size+1,#[.slice yP2 yG2 yR2],27⟩,⟨w2.heap.size,#[.slice yA2 yN2 yC2],27⟩,⟨w1.heap.size+1,#[.slice yP1 yG1 yR1],27⟩,⟨w1.heap.size,#[.slice yA1 yN1 yC1],27⟩,⟨w.heap.size+1,#[.slice none 0 0,.slice none 0 0,.slice none 0 0,.slice none 0 0,.slice none 0 0,.bool false],111⟩,⟨w.heap.size,#[.bool s,.slice a1 n1 c1,.slice a2 n2 c2,.bool s,.slice a3 n3 c3,.slice a4 n4 c4],52⟩] [(a4,n4,d2),(a3,n3,m2),(a2,n2,d1),(a1,n1,m1)] [(yA7,yN7,yC7,yM7),(yP5,yG5,yR5,yL5),(x4_A5,x4_N5,x4_C5,x4_M5),(x4_A11,x4_N11,x4_C11,x4_M11),(yA3,yN3,yC3,yM3),(yP2,yG2,yR2,yL2),(yA2,yN2,yC2,yM2),(yP1,yG1,yR1,yL1),(yA1,yN1,yC1,yM1)] (some ((p),(cond b6 E6 (cond b4 E4 yE7)))) bs9 os9 w'
 f0:b0 = true→v0 = .pointer (some ⟨p,0,none⟩)
 f1:b1 = true→v1 = .pointer (some ⟨p,0,none⟩)
 f2:b2 = true→v2 = .agg #[.slice yP5 yG5 yR5]
 f3:b3 = true→v3 = .agg #[.slice yA7 yN7 yC7]
 f4:b4 = true→v4 = .agg #[.slice A4 N4 C4]∧(A4,N4,C4,M4)∈os9∧Wz yE7 E4 M4 (Rm.dist yL5 yM7) (False)
 f5:b5 = true→v5 = .agg #[.slice yA3 yN3 yC3]
 f6:b6 = true→v6 = .agg #[.slice A6 N6 C6]∧(A6,N6,C6,M6)∈os9∧Wz E4 E6 M6 (Nat.gcd M4 yM3) (False)
 f7:b7 = true→AlV bs9 S9 v7 27
 f8:b8 = true→StV bs9 S9 v7 v6 27
 g6_4:b6 = true→b4 = true
 g8_7:b8 = true→b7 = true
 g8_6:b8 = true→b6 = true
 g8_4:b8 = true→b4 = true
def SplS8I (w:World) (p:Nat) (s:Bool) (a1 a2 a3 a4:Option Addr) (n1 n2 n3 n4 c1 c2 c3 c4 m1 d1 m2 d2:Nat) (yA1:Option Addr) (yN1 yC1 yM1:Nat) (yP1:Option Addr) (yG1 yR1 yL1:Nat) (w1:World) (yA2:Option Addr) (yN2 yC2 yM2:Nat) (yP2:Option Addr) (yG2 yR2 yL2:Nat) (w2:World) (yA3:Option Addr) (yN3 yC3 yM3:Nat) (w3:World) (x4_A5:Option Addr) (x4_N5:Nat) (x4_C5:Nat) (x4_M5:Nat) (x4_A11:Option Addr) (x4_N11:Nat) (x4_C11:Nat) (x4_M11:Nat) (x4_g12:Nat) (x4_g13:Nat) (yA5:Option Addr) (yN5 yC5:Nat) (yP5:Option Addr) (yG5 yR5 yL5:Nat) (w5:World) (yA6:Option Addr) (yN6 yC6:Nat) (yP6:Option Addr) (yG6 yR6:Nat) (w6:World) (yA7:Option Addr) (yN7 yC7 yM7:Nat) (yE7:Int) (S9:Nat) (l:Array Bool) (act:Act) (w':World):SplS8S→Prop
 | ⟨b0,b1,b2,b3,b4,b5,b6,b7,b8,v0,v1,v2,v3,v4,v5,v6,v7,A4,N4,C4,M4,E4,A6,N6,C6,M6,E6,bs9,os9⟩=>l = #[b0,b1,b2,b3,b4,b5,b6,b7,b8]∧act = { tmps:=#[.pointer (some ⟨p,0,none⟩),.agg #[.bool s,.slice a1 n1 c1,.slice a2 n2 c2,.bool s,.slice a3 n3 c3,.slice a4 n4 c4],undef,.pointer (some ⟨w.heap.size,0,none⟩),.pointer (some ⟨w.heap.size+1,0,none⟩),.pointer (some ⟨w1.heap.size,0,none⟩),.pointer (some ⟨w1.heap.size+1,0,none⟩),.pointer (some ⟨w2.heap.size,0,none⟩),.pointer (some ⟨w2.heap.size+1,0,none⟩),.pointer (some ⟨w3.heap.size,0,none⟩),.pointer (some ⟨x4_g12,0,none⟩),.pointer (some ⟨x4_g13,0,none⟩),.pointer (some ⟨w5.heap.size,0,none⟩),.pointer (some ⟨w5.heap.size+1,0,none⟩),.pointer (some ⟨w6.heap.size,0,none⟩),.pointer (some ⟨w6.heap.size+1,0,none⟩),v7,undef,undef,undef,undef,undef,.tuple #[.agg #[.slice yA1 yN1 yC1],.agg #[.slice yP1 yG1 yR1]],.pointer (some ⟨p,0,none⟩),.pointer (some ⟨w.heap.size,0,none⟩),.pointer (some ⟨w.heap.size,1,none⟩),.agg #[.slice a1 n1 c1],.pointer (some ⟨w.heap.size,0,none⟩),.pointer (some ⟨w.heap.size,2,none⟩),.agg #[.slice a2 n2 c2],.tuple #[.agg #[.slice yA1 yN1 yC1],.agg #[.slice yP1 yG1 yR1]],.agg #[.slice yA1 yN1 yC1],.agg #[.slice yP1 yG1 yR1],.tuple #[.agg #[.slice yA2 yN2 yC2],.agg #[.slice yP2 yG2 yR2]],.pointer (some ⟨p,0,none⟩),.pointer (some ⟨w.heap.size,3,none⟩),.pointer (some ⟨w.heap.size,4,none⟩),.agg #[.slice a3 n3 c3],.pointer (some ⟨w.heap.size,3,none⟩),.pointer (some ⟨w.heap.size,5,none⟩),.agg #[.slice a4 n4 c4],.tuple #[.agg #[.slice yA2 yN2 yC2],.agg #[.slice yP2 yG2 yR2]],.agg #[.slice yA2 yN2 yC2],.agg #[.slice yP2 yG2 yR2],.pointer (some ⟨p,0,none⟩),.pointer (some ⟨w.heap.size,0,none⟩),.pointer (some ⟨w.heap.size,2,none⟩),.agg #[.slice a2 n2 c2],.pointer (some ⟨w.heap.size,3,none⟩),.pointer (some ⟨w.heap.size,5,none⟩),.agg #[.slice a4 n4 c4],.agg #[.slice yA3 yN3 yC3],.pointer (some ⟨p,0,none⟩),.pointer (some ⟨w.heap.size,3,none⟩),.pointer (some ⟨w.heap.size,5,none⟩),.agg #[.slice a4 n4 c4],.agg #[.slice yA3 yN3 yC3],.agg #[.slice x4_A5 x4_N5 x4_C5],.pointer (some ⟨p,0,none⟩),.pointer (some ⟨w.heap.size,0,none⟩),.pointer (some ⟨w.heap.size,2,none⟩),.agg #[.slice a2 n2 c2],.agg #[.slice yA3 yN3 yC3],.agg #[.slice x4_A11 x4_N11 x4_C11],.tuple #[.agg #[.slice yA5 yN5 yC5],.agg #[.slice yP5 yG5 yR5]],.pointer (some ⟨p,0,none⟩),.agg #[.slice yP1 yG1 yR1],.agg #[.slice x4_A5 x4_N5 x4_C5],.agg #[.slice yA3 yN3 yC3],.tuple #[.agg #[.slice yA5 yN5 yC5],.agg #[.slice yP5 yG5 yR5]],.agg #[.slice yA5 yN5 yC5],.agg #[.slice yP5 yG5 yR5],.tuple #[.agg #[.slice yA6 yN6 yC6],.agg #[.slice yP6 yG6 yR6]],.pointer (some ⟨p,0,none⟩),.agg #[.slice yP2 yG2 yR2],.agg #[.slice x4_A11 x4_N11 x4_C11],.agg #[.slice yA3 yN3 yC3],.tuple #[.agg #[.slice yA6 yN6 yC6],.agg #[.slice yP6 yG6 yR6]],.agg #[.slice yA6 yN6 yC6],.agg #[.slice yP6 yG6 yR6],.pointer (some ⟨w.heap.size,0,none⟩),.pointer (some ⟨w.heap.size,0,none⟩),.bool s,.pointer (some ⟨w.heap.size,3,none⟩),.pointer (some ⟨w.heap.size,3,none⟩),.bool s,.bool true,.pointer (some ⟨p,0,none⟩),.agg #[.slice yA3 yN3 yC3],.agg #[.slice yP6 yG6 yR6],.agg #[.slice yA7 yN7 yC7],v0,v1,v2,v3,v4,v5,v6,undef,undef,undef,undef,undef,undef,undef,undef,undef,undef,undef,undef,undef,undef,undef,undef,undef,undef,undef,undef,undef,undef,undef,undef,undef,undef,undef,undef,undef,undef,undef,undef,undef,undef],defers:=[] }∧SplS8R w p s a1 a2 a3 a4 n1 n2 n3 n4 c1 c2 c3 c4 m1 d1 m2 d2 yA1 yN1 yC1 yM1 yP1 yG1 yR1 yL1 w1 yA2 yN2 yC2 yM2 yP2 yG2 yR2 yL2 w2 yA3 yN3 yC3 yM3 w3 x4_A5 x4_N5 x4_C5 x4_M5 x4_A11 x4_N11 x4_C11 x4_M11 x4_g12 x4_g13 yA5 yN5 yC5 yP5 yG5 yR5 yL5 w5 yA6 yN6 yC6 yP6 yG6 yR6 w6 yA7 yN7 yC7 yM7 yE7 S9 b0 b1 b2 b3 b4 b5 b6 b7 b8 v0 v1 v2 v3 v4 v5 v6 v7 A4 N4 C4 M4 E4 A6 N6 C6 M6 E6 bs9 os9 w'
structure SplS4S where
 (b0 b1 b2 b3 b4 b5 b6 b7 b8 b9 b10 b11 b12 b13 b14 b15:Bool)
 (v0 v1 v2 v3 v4 v5 v6 v7 v8 v9 v10 v11 v12 v13:Value)
 (A5:Option Addr)
 (N5 C5:Nat)
 (M5:Nat)
 (E5:Int)
 (A11:Option Addr)
 (N11 C11:Nat)
 (M11:Nat)
 (E11:Int)
 bs9:List En
 os9:Os
structure SplS4R (w:World) (p:Nat) (s:Bool) (a1 a2 a3 a4:Option Addr) (n1 n2 n3 n4 c1 c2 c3 c4 m1 d1 m2 d2:Nat) (yA1:Option Addr) (yN1 yC1 yM1:Nat) (yP1:Option Addr) (yG1 yR1 yL1:Nat) (w1:World) (yA2:Option Addr) (yN2 yC2 yM2:Nat) (yP2:Option Addr) (yG2 yR2 yL2:Nat) (w2:World) (yA3:Option Addr) (yN3 yC3 yM3:Nat) (yE3:Int) (w3:World) (S9:Nat) (b0 b1 b2 b3 b4 b5 b6 b7 b8 b9 b10 b11 b12 b13 b14 b15:Bool) (v0 v1 v2 v3 v4 v5 v6 v7 v8 v9 v10 v11 v12 v13:Value) (A5:Option Addr) (N5 C5:Nat) (M5:Nat) (E5:Int) (A11:Option Addr) (N11 C11:Nat) (M11:Nat) (E11:Int) (bs9:List En) (os9:Os) (w':World):Prop where
 hc:Rc w S9 [⟨w3.heap.size,#[.slice yA3 yN3 yC3],27⟩,⟨w2.heap.size+1,#[.slice yP2 yG2 yR2],27⟩,⟨w2.heap.size,#[.slice yA2 yN2 yC2],27⟩,⟨w1.heap.size+1,#[.slice yP1 yG1 yR1],27⟩,⟨w1.heap.size,#[.slice yA1 yN1 yC1],27⟩,⟨w.heap.size+1,#[.slice none 0 0,.slice none 0 0,.slice none 0 0,.slice none 0 0,.slice none 0 0,.bool false],111⟩,⟨w.heap.size,#[.bool s,.slice a1 n1 c1,.slice a2 n2 c2,.bool s,.slice a3 n3 c3,.slice a4 n4 c4],52⟩] [(a4,n4,d2),(a3,n3,m2),(a2,n2,d1),(a1,n1,m1)] [(yA3,yN3,yC3,yM3),(yP2,yG2,yR2,yL2),(yA2,yN2,yC2,yM2),(yP1,yG1,yR1,yL1),(yA1,yN1,yC1,yM1)] (some ((p),(cond b11 E11 (cond b5 E5 yE3)))) bs9 os9 w'
 f0:b0 = true→v0 = .pointer (some ⟨p,0,none⟩)
 f1:b1 = true→v1 = .pointer (some ⟨w.heap.size,3,none⟩)
 f2:b2 = true→v2 = .pointer (some ⟨w.heap.size,5,none⟩)
 f3:b3 = true→v3 = .agg #[.slice a4 n4 c4]
 f4:b4 = true→v4 = .agg #[.slice yA3 yN3 yC3]
 f5:b5 = true→v5 = .agg #[.slice A5 N5 C5]∧(A5,N5,C5,M5)∈os9∧(∃ R,Wd yE3 E5 M5 R d2 yM3)
 f6:b6 = true→v6 = .pointer (some ⟨p,0,none⟩)
 f7:b7 = true→v7 = .pointer (some ⟨w.heap.size,0,none⟩)
 f8:b8 = true→v8 = .pointer (some ⟨w.heap.size,2,none⟩)
 f9:b9 = true→v9 = .agg #[.slice a2 n2 c2]
 f10:b10 = true→v10 = .agg #[.slice yA3 yN3 yC3]
 f11:b11 = true→v11 = .agg #[.slice A11 N11 C11]∧(A11,N11,C11,M11)∈os9∧(∃ R,Wd E5 E11 M11 R d1 yM3)
 f12:b12 = true→AlV bs9 S9 v12 27
 f13:b13 = true→AlV bs9 S9 v13 27
 f14:b14 = true→StV bs9 S9 v12 v5 27
 f15:b15 = true→StV bs9 S9 v13 v11 27
 d12_13:b12 = true→b13 = true→v12≠v13
 g11_5:b11 = true→b5 = true
 g14_12:b14 = true→b12 = true
 g14_5:b14 = true→b5 = true
 g15_13:b15 = true→b13 = true
 g15_11:b15 = true→b11 = true
 g15_5:b15 = true→b5 = true
def SplS4I (w:World) (p:Nat) (s:Bool) (a1 a2 a3 a4:Option Addr) (n1 n2 n3 n4 c1 c2 c3 c4 m1 d1 m2 d2:Nat) (yA1:Option Addr) (yN1 yC1 yM1:Nat) (yP1:Option Addr) (yG1 yR1 yL1:Nat) (w1:World) (yA2:Option Addr) (yN2 yC2 yM2:Nat) (yP2:Option Addr) (yG2 yR2 yL2:Nat) (w2:World) (yA3:Option Addr) (yN3 yC3 yM3:Nat) (yE3:Int) (w3:World) (S9:Nat) (l:Array Bool) (act:Act) (w':World):SplS4S→Prop
 | ⟨b0,b1,b2,b3,b4,b5,b6,b7,b8,b9,b10,b11,b12,b13,b14,b15,v0,v1,v2,v3,v4,v5,v6,v7,v8,v9,v10,v11,v12,v13,A5,N5,C5,M5,E5,A11,N11,C11,M11,E11,bs9,os9⟩=>l = #[b0,b1,b2,b3,b4,b5,b6,b7,b8,b9,b10,b11,b12,b13,b14,b15]∧act = { tmps:=#[.pointer (some ⟨p,0,none⟩),.agg #[.bool s,.slice a1 n1 c1,.slice a2 n2 c2,.bool s,.slice a3 n3 c3,.slice a4 n4 c4],undef,.pointer (some ⟨w.heap.size,0,none⟩),.pointer (some ⟨w.heap.size+1,0,none⟩),.pointer (some ⟨w1.heap.size,0,none⟩),.pointer (some ⟨w1.heap.size+1,0,none⟩),.pointer (some ⟨w2.heap.size,0,none⟩),.pointer (some ⟨w2.heap.size+1,0,none⟩),.pointer (some ⟨w3.heap.size,0,none⟩),v12,v13,undef,undef,undef,undef,undef,undef,undef,undef,undef,undef,.tuple #[.agg #[.slice yA1 yN1 yC1],.agg #[.slice yP1 yG1 yR1]],.pointer (some ⟨p,0,none⟩),.pointer (some ⟨w.heap.size,0,none⟩),.pointer (some ⟨w.heap.size,1,none⟩),.agg #[.slice a1 n1 c1],.pointer (some ⟨w.heap.size,0,none⟩),.pointer (some ⟨w.heap.size,2,none⟩),.agg #[.slice a2 n2 c2],.tuple #[.agg #[.slice yA1 yN1 yC1],.agg #[.slice yP1 yG1 yR1]],.agg #[.slice yA1 yN1 yC1],.agg #[.slice yP1 yG1 yR1],.tuple #[.agg #[.slice yA2 yN2 yC2],.agg #[.slice yP2 yG2 yR2]],.pointer (some ⟨p,0,none⟩),.pointer (some ⟨w.heap.size,3,none⟩),.pointer (some ⟨w.heap.size,4,none⟩),.agg #[.slice a3 n3 c3],.pointer (some ⟨w.heap.size,3,none⟩),.pointer (some ⟨w.heap.size,5,none⟩),.agg #[.slice a4 n4 c4],.tuple #[.agg #[.slice yA2 yN2 yC2],.agg #[.slice yP2 yG2 yR2]],.agg #[.slice yA2 yN2 yC2],.agg #[.slice yP2 yG2 yR2],.pointer (some ⟨p,0,none⟩),.pointer (some ⟨w.heap.size,0,none⟩),.pointer (some ⟨w.heap.size,2,none⟩),.agg #[.slice a2 n2 c2],.pointer (some ⟨w.heap.size,3,none⟩),.pointer (some ⟨w.heap.size,5,none⟩),.agg #[.slice a4 n4 c4],.agg #[.slice yA3 yN3 yC3],v0,v1,v2,v3,v4,v5,v6,v7,v8,v9,v10,v11,undef,undef,undef,undef,undef,undef,undef,undef,undef,undef,undef,undef,undef,undef,undef,undef,undef,undef,undef,undef,undef,undef,undef,undef,undef,undef,undef,undef,undef,undef,undef,undef,undef,undef,undef,undef,undef,undef,undef,undef,undef,undef,undef,undef,undef,undef,undef,undef,undef,undef,undef,undef,undef,undef,undef,undef,undef,undef,undef,undef,undef,undef,undef,undef,undef,undef,undef,undef],defers:=[] }∧SplS4R w p s a1 a2 a3 a4 n1 n2 n3 n4 c1 c2 c3 c4 m1 d1 m2 d2 yA1 yN1 yC1 yM1 yP1 yG1 yR1 yL1 w1 yA2 yN2 yC2 yM2 yP2 yG2 yR2 yL2 w2 yA3 yN3 yC3 yM3 yE3 w3 S9 b0 b1 b2 b3 b4 b5 b6 b7 b8 b9 b10 b11 b12 b13 b14 b15 v0 v1 v2 v3 v4 v5 v6 v7 v8 v9 v10 v11 v12 v13 A5 N5 C5 M5 E5 A11 N11 C11 M11 E11 bs9 os9 w'
theorem splitS_any (p:Nat) (e0:Int) (s:Bool) (a1 a2 a3 a4:Option Addr) (n1 n2 n3 n4 c1 c2 c3 c4 m1 d1 m2 d2:Nat) (w:World) (hk:Wk w p e0) (h1:Num w a1 n1 m1) (h2:Num w a2 n2 d1) (h3:Num w a3 n3 m2) (h4:Num w a4 n4 d2) (hd1:0 < d1) (hd2:0 < d2) (hc1:Nat.gcd m1 d1 = 1) (hc2:Nat.gcd m2 d2 = 1) :
  Calls Tryz.prog 72 #[.pointer (some ⟨p,0,none⟩),.agg #[.bool s,.slice a1 n1 c1,.slice a2 n2 c2,.bool s,.slice a3 n3 c3,.slice a4 n4 c4]] w (SpAns p e0 w true m1 d1 m2 d2):=by
 have hpl:=hk.lt
 have hl1:¬ Over d1:=fun o=>absurd o.le (Nat.not_le.2 h2.lt)
 have hl2:¬ Over d2:=fun o=>absurd o.le (Nat.not_le.2 h4.lt)
 have hS:=Rs.begin_work hk
 replace hS:=hS.num h1
 replace hS:=hS.num h2
 replace hS:=hS.num h3
 replace hS:=hS.num h4
 replace hS:=hS.alloc #[.bool s,.slice a1 n1 c1,.slice a2 n2 c2,.bool s,.slice a3 n3 c3,.slice a4 n4 c4] 52
 try simp only [World.size_alloc] at hS
 replace hS:=hS.alloc #[.slice none 0 0,.slice none 0 0,.slice none 0 0,.slice none 0 0,.slice none 0 0,.bool false] 111
 try simp only [World.size_alloc] at hS
 go_enter Tryz.func72,Tryz.ntmps72
 go_wp2_with fail
 refine (W_div hS c1 c2 (hS.nm (a1,n1,m1) (by simp)) (hS.nm (a2,n2,d1) (by simp))).mono ?_
 clear hS; rintro en w1 ⟨yA1,yN1,yC1,yM1,yP1,yG1,yR1,yL1,yE1,rfl,hS,q1,hz1⟩
 have Q1:=hide q1
 clear q1
 simp only [World.size_alloc] at hz1
 replace hS:=hS.alloc #[.slice yA1 yN1 yC1] 27
 try simp only [World.size_alloc] at hS
 replace hS:=hS.alloc #[.slice yP1 yG1 yR1] 27
 try simp only [World.size_alloc] at hS
 obtain ⟨⟨k0_0,-⟩,z0⟩:=hS.cz ⟨w1.heap.size+1,#[.slice yP1 yG1 yR1],27⟩ (by simp)
 have z0_0:=z0 0
 clear z0
 obtain ⟨⟨k1_0,-⟩,z1⟩:=hS.cz ⟨w1.heap.size,#[.slice yA1 yN1 yC1],27⟩ (by simp)
 have z1_0:=z1 0
 clear z1
 obtain ⟨⟨k2_0,k2_1,k2_2,k2_3,k2_4,k2_5,-⟩,z2⟩:=hS.cz ⟨w.heap.size+1,#[.slice none 0 0,.slice none 0 0,.slice none 0 0,.slice none 0 0,.slice none 0 0,.bool false],111⟩ (by simp)
 have z2_0:=z2 0
 have z2_1:=z2 1
 have z2_2:=z2 2
 have z2_3:=z2 3
 have z2_4:=z2 4
 have z2_5:=z2 5
 clear z2
 obtain ⟨⟨k3_0,k3_1,k3_2,k3_3,k3_4,k3_5,-⟩,z3⟩:=hS.cz ⟨w.heap.size,#[.bool s,.slice a1 n1 c1,.slice a2 n2 c2,.bool s,.slice a3 n3 c3,.slice a4 n4 c4],52⟩ (by simp)
 have z3_0:=z3 0
 have z3_1:=z3 1
 have z3_2:=z3 2
 have z3_3:=z3 3
 have z3_4:=z3 4
 have z3_5:=z3 5
 clear z3
 simp only [] at k0_0 z0_0 k1_0 z1_0 k2_0 z2_0 k2_1 z2_1 k2_2 z2_2 k2_3 z2_3 k2_4 z2_4 k2_5 z2_5 k3_0 z3_0 k3_1 z3_1 k3_2 z3_2 k3_3 z3_3 k3_4 z3_4 k3_5 z3_5
 go_wp2_with fail
 clear k0_0 z0_0 k1_0 z1_0 k2_0 z2_0 k2_1 z2_1 k2_2 z2_2 k2_3 z2_3 k2_4 z2_4 k2_5 z2_5 k3_0 z3_0 k3_1 z3_1 k3_2 z3_2 k3_3 z3_3 k3_4 z3_4 k3_5 z3_5
 refine (W_div hS c3 c4 (hS.nm (a3,n3,m2) (by simp)) (hS.nm (a4,n4,d2) (by simp))).mono ?_
 clear hS; rintro en w2 ⟨yA2,yN2,yC2,yM2,yP2,yG2,yR2,yL2,yE2,rfl,hS,q2,hz2⟩
 have Q2:=hide q2
 clear q2
 simp only [World.size_alloc] at hz2
 replace hS:=hS.alloc #[.slice yA2 yN2 yC2] 27
 try simp only [World.size_alloc] at hS
 replace hS:=hS.alloc #[.slice yP2 yG2 yR2] 27
 try simp only [World.size_alloc] at hS
 obtain ⟨⟨k0_0,-⟩,z0⟩:=hS.cz ⟨w2.heap.size+1,#[.slice yP2 yG2 yR2],27⟩ (by simp)
 have z0_0:=z0 0
 clear z0
 obtain ⟨⟨k1_0,-⟩,z1⟩:=hS.cz ⟨w2.heap.size,#[.slice yA2 yN2 yC2],27⟩ (by simp)
 have z1_0:=z1 0
 clear z1
 obtain ⟨⟨k2_0,-⟩,z2⟩:=hS.cz ⟨w1.heap.size+1,#[.slice yP1 yG1 yR1],27⟩ (by simp)
 have z2_0:=z2 0
 clear z2
 obtain ⟨⟨k3_0,-⟩,z3⟩:=hS.cz ⟨w1.heap.size,#[.slice yA1 yN1 yC1],27⟩ (by simp)
 have z3_0:=z3 0
 clear z3
 obtain ⟨⟨k4_0,k4_1,k4_2,k4_3,k4_4,k4_5,-⟩,z4⟩:=hS.cz ⟨w.heap.size+1,#[.slice none 0 0,.slice none 0 0,.slice none 0 0,.slice none 0 0,.slice none 0 0,.bool false],111⟩ (by simp)
 have z4_0:=z4 0
 have z4_1:=z4 1
 have z4_2:=z4 2
 have z4_3:=z4 3
 have z4_4:=z4 4
 have z4_5:=z4 5
 clear z4
 obtain ⟨⟨k5_0,k5_1,k5_2,k5_3,k5_4,k5_5,-⟩,z5⟩:=hS.cz ⟨w.heap.size,#[.bool s,.slice a1 n1 c1,.slice a2 n2 c2,.bool s,.slice a3 n3 c3,.slice a4 n4 c4],52⟩ (by simp)
 have z5_0:=z5 0
 have z5_1:=z5 1
 have z5_2:=z5 2
 have z5_3:=z5 3
 have z5_4:=z5 4
 have z5_5:=z5 5
 clear z5
 simp only [] at k0_0 z0_0 k1_0 z1_0 k2_0 z2_0 k3_0 z3_0 k4_0 z4_0 k4_1 z4_1 k4_2 z4_2 k4_3 z4_3 k4_4 z4_4 k4_5 z4_5 k5_0 z5_0 k5_1 z5_1 k5_2 z5_2 k5_3 z5_3 k5_4 z5_4 k5_5 z5_5
 go_wp2_with fail
 clear k0_0 z0_0 k1_0 z1_0 k2_0 z2_0 k3_0 z3_0 k4_0 z4_0 k4_1 z4_1 k4_2 z4_2 k4_3 z4_3 k4_4 z4_4 k4_5 z4_5 k5_0 z5_0 k5_1 z5_1 k5_2 z5_2 k5_3 z5_3 k5_4 z5_4 k5_5 z5_5
 refine (W_gcd hS c2 c4 (hS.nm (a2,n2,d1) (by simp)) (hS.nm (a4,n4,d2) (by simp))).mono ?_
 clear hS; rintro en w3 ⟨yA3,yN3,yC3,yM3,yE3,rfl,hS,q3,hz3⟩
 have Q3:=hide q3
 clear q3
 simp only [World.size_alloc] at hz3
 replace hS:=hS.alloc #[.slice yA3 yN3 yC3] 27
 try simp only [World.size_alloc] at hS
 obtain ⟨⟨k0_0,-⟩,z0⟩:=hS.cz ⟨w3.heap.size,#[.slice yA3 yN3 yC3],27⟩ (by simp)
 have z0_0:=z0 0
 clear z0
 obtain ⟨⟨k1_0,-⟩,z1⟩:=hS.cz ⟨w2.heap.size+1,#[.slice yP2 yG2 yR2],27⟩ (by simp)
 have z1_0:=z1 0
 clear z1
 obtain ⟨⟨k2_0,-⟩,z2⟩:=hS.cz ⟨w2.heap.size,#[.slice yA2 yN2 yC2],27⟩ (by simp)
 have z2_0:=z2 0
 clear z2
 obtain ⟨⟨k3_0,-⟩,z3⟩:=hS.cz ⟨w1.heap.size+1,#[.slice yP1 yG1 yR1],27⟩ (by simp)
 have z3_0:=z3 0
 clear z3
 obtain ⟨⟨k4_0,-⟩,z4⟩:=hS.cz ⟨w1.heap.size,#[.slice yA1 yN1 yC1],27⟩ (by simp)
 have z4_0:=z4 0
 clear z4
 obtain ⟨⟨k5_0,k5_1,k5_2,k5_3,k5_4,k5_5,-⟩,z5⟩:=hS.cz ⟨w.heap.size+1,#[.slice none 0 0,.slice none 0 0,.slice none 0 0,.slice none 0 0,.slice none 0 0,.bool false],111⟩ (by simp)
 have z5_0:=z5 0
 have z5_1:=z5 1
 have z5_2:=z5 2
 have z5_3:=z5 3
 have z5_4:=z5 4
 have z5_5:=z5 5
 clear z5
 obtain ⟨⟨k6_0,k6_1,k6_2,k6_3,k6_4,k6_5,-⟩,z6⟩:=hS.cz ⟨w.heap.size,#[.bool s,.slice a1 n1 c1,.slice a2 n2 c2,.bool s,.slice a3 n3 c3,.slice a4 n4 c4],52⟩ (by simp)
 have z6_0:=z6 0
 have z6_1:=z6 1
 have z6_2:=z6 2
 have z6_3:=z6 3
 have z6_4:=z6 4
 have z6_5:=z6 5
 clear z6
 simp only [] at k0_0 z0_0 k1_0 z1_0 k2_0 z2_0 k3_0 z3_0 k4_0 z4_0 k5_0 z5_0 k5_1 z5_1 k5_2 z5_2 k5_3 z5_3 k5_4 z5_4 k5_5 z5_5 k6_0 z6_0 k6_1 z6_1 k6_2 z6_2 k6_3 z6_3 k6_4 z6_4 k6_5 z6_5
 go_wp2_with fail
 clear k0_0 z0_0 k1_0 z1_0 k2_0 z2_0 k3_0 z3_0 k4_0 z4_0 k5_0 z5_0 k5_1 z5_1 k5_2 z5_2 k5_3 z5_3 k5_4 z5_4 k5_5 z5_5 k6_0 z6_0 k6_1 z6_1 k6_2 z6_2 k6_3 z6_3 k6_4 z6_4 k6_5 z6_5
 refine wp_region_any (by kernel_rfl) ?_
 change wpAny _ _ _ _ _ _ _ (World.drew _)
 have hS9:=hS.drew
 have hsW9:(World.drew (w3.alloc (.cells #[.slice yA3 yN3 yC3] 27))).heap.size = w3.heap.size+1:=by first|rfl|simp
 generalize World.drew (w3.alloc (.cells #[.slice yA3 yN3 yC3] 27)) = Wd at hS9 hsW9 ⊢
 obtain ⟨S9,hS9z⟩:∃ x,x = Wd.heap.size:=⟨_,rfl⟩
 have hC9:=Rc.start (bs:=[⟨w3.heap.size,#[.slice yA3 yN3 yC3],27⟩,⟨w2.heap.size+1,#[.slice yP2 yG2 yR2],27⟩,⟨w2.heap.size,#[.slice yA2 yN2 yC2],27⟩,⟨w1.heap.size+1,#[.slice yP1 yG1 yR1],27⟩,⟨w1.heap.size,#[.slice yA1 yN1 yC1],27⟩,⟨w.heap.size+1,#[.slice none 0 0,.slice none 0 0,.slice none 0 0,.slice none 0 0,.slice none 0 0,.bool false],111⟩,⟨w.heap.size,#[.bool s,.slice a1 n1 c1,.slice a2 n2 c2,.bool s,.slice a3 n3 c3,.slice a4 n4 c4],52⟩]) hS9 (by simp)
 rw [← hS9z] at hC9
 refine wpAny_inv (fun l act w'=>∃ σ,SplS4I w p s a1 a2 a3 a4 n1 n2 n3 n4 c1 c2 c3 c4 m1 d1 m2 d2 yA1 yN1 yC1 yM1 yP1 yG1 yR1 yL1 w1 yA2 yN2 yC2 yM2 yP2 yG2 yR2 yL2 w2 yA3 yN3 yC3 yM3 yE3 w3 S9 l act w' σ) ?_ ?_ _ _ _ _ ?_ ?_
 ·intro l act w' i9 hI9 hi9 hl9
  have hin9:i9 < 16:=by
   by_cases h:i9 < 16
   ·exact h
   ·obtain ⟨⟨⟩,rfl,_⟩:=hI9
    rw [Array.getElem?_eq_none (by simp; omega)] at hl9; cases hl9
  have hcase:i9 = 0∨i9 = 1∨i9 = 2∨i9 = 3∨i9 = 4∨i9 = 5∨i9 = 6∨i9 = 7∨i9 = 8∨i9 = 9∨i9 = 10∨i9 = 11∨i9 = 12∨i9 = 13∨i9 = 14∨i9 = 15:=by omega
  clear hin9
  obtain ⟨⟨b0,b1,b2,b3,b4,b5,b6,b7,b8,b9,b10,b11,b12,b13,b14,b15,v0,v1,v2,v3,v4,v5,v6,v7,v8,v9,v10,v11,v12,v13,A5,N5,C5,M5,E5,A11,N11,C11,M11,E11,bs9,os9⟩,rfl,rfl,hR⟩:=hI9
  rcases hcase with rfl|rfl|rfl|rfl|rfl|rfl|rfl|rfl|rfl|rfl|rfl|rfl|rfl|rfl|rfl|rfl
  ·obtain rfl:b0 = false:=by simpa using hl9
   have hc:=hR.hc
   refine wpOp_step rfl fun K hK=>?_
   go_simp
   exact hK _ _ ⟨⟨_,_,_,_,_,_,_,_,_,_,_,_,_,_,_,_,_,_,_,_,_,_,_,_,_,_,_,_,_,_,A5,N5,C5,M5,E5,A11,N11,C11,M11,E11,_,_⟩,rfl,rfl,{ hR with hc:=hc,f0:=(fun _=>rfl) }⟩
  ·obtain rfl:b1 = false:=by simpa using hl9
   have hc:=hR.hc
   refine wpOp_step rfl fun K hK=>?_
   go_simp
   exact hK _ _ ⟨⟨_,_,_,_,_,_,_,_,_,_,_,_,_,_,_,_,_,_,_,_,_,_,_,_,_,_,_,_,_,_,A5,N5,C5,M5,E5,A11,N11,C11,M11,E11,_,_⟩,rfl,rfl,{ hR with hc:=hc,f1:=(fun _=>rfl) }⟩
  ·obtain rfl:b2 = false:=by simpa using hl9
   obtain ⟨o9,ho9,hd9⟩:=(mem_ready.1 hi9).2
   cases ho9
   have e1:b1 = true:=hd9 ⟨1,.data⟩ (by simp) rfl
   subst e1
   have h9:=hR.f1 rfl
   subst h9
   have hc:=hR.hc
   refine wpOp_step rfl fun K hK=>?_
   go_simp
   exact hK _ _ ⟨⟨_,_,_,_,_,_,_,_,_,_,_,_,_,_,_,_,_,_,_,_,_,_,_,_,_,_,_,_,_,_,A5,N5,C5,M5,E5,A11,N11,C11,M11,E11,_,_⟩,rfl,rfl,{ hR with hc:=hc,f2:=(fun _=>rfl) }⟩
  ·obtain rfl:b3 = false:=by simpa using hl9
   obtain ⟨o9,ho9,hd9⟩:=(mem_ready.1 hi9).2
   cases ho9
   have e2:b2 = true:=hd9 ⟨2,.data⟩ (by simp) rfl
   subst e2
   have h9:=hR.f2 rfl
   subst h9
   have hc:=hR.hc
   have c9_0:=hc.st.cellAt (hc.old ⟨w.heap.size,#[.bool s,.slice a1 n1 c1,.slice a2 n2 c2,.bool s,.slice a3 n3 c3,.slice a4 n4 c4],52⟩ (by simp)).1 5 (.slice a4 n4 c4) rfl
   simp only [] at c9_0
   refine wpOp_step rfl fun K hK=>?_
   go_simp
   exact hK _ _ ⟨⟨_,_,_,_,_,_,_,_,_,_,_,_,_,_,_,_,_,_,_,_,_,_,_,_,_,_,_,_,_,_,A5,N5,C5,M5,E5,A11,N11,C11,M11,E11,_,_⟩,rfl,rfl,{ hR with hc:=hc,f3:=(fun _=>rfl) }⟩
  ·obtain rfl:b4 = false:=by simpa using hl9
   have hc:=hR.hc
   have c9_0:=hc.st.cellAt (hc.old ⟨w3.heap.size,#[.slice yA3 yN3 yC3],27⟩ (by simp)).1 0 (.slice yA3 yN3 yC3) rfl
   simp only [] at c9_0
   refine wpOp_step rfl fun K hK=>?_
   go_simp
   exact hK _ _ ⟨⟨_,_,_,_,_,_,_,_,_,_,_,_,_,_,_,_,_,_,_,_,_,_,_,_,_,_,_,_,_,_,A5,N5,C5,M5,E5,A11,N11,C11,M11,E11,_,_⟩,rfl,rfl,{ hR with hc:=hc,f4:=(fun _=>rfl) }⟩
  ·obtain rfl:b5 = false:=by simpa using hl9
   obtain ⟨o9,ho9,hd9⟩:=(mem_ready.1 hi9).2
   cases ho9
   have e0:b0 = true:=hd9 ⟨0,.data⟩ (by simp) rfl
   have e3:b3 = true:=hd9 ⟨3,.data⟩ (by simp) rfl
   have e4:b4 = true:=hd9 ⟨4,.data⟩ (by simp) rfl
   subst e0 e3 e4
   have h9:=hR.f0 rfl
   subst h9
   have h9:=hR.f3 rfl
   subst h9
   have h9:=hR.f4 rfl
   subst h9
   have hc:=hR.hc
   obtain rfl:b11 = false:=by cases h:b11; rfl; exact Bool.noConfusion (hR.g11_5 h)
   simp only [cond_false] at hc
   have HR:=hide hR
   clear hR
   refine wpOp_step rfl fun K hK=>?_
   go_simp
   go_wp2_with fail
   refine (W_over hc.st c4 yC3 (hc.st.nm (a4,n4,d2) (by simp)) (hc.st.ow (yA3,yN3,yC3,yM3) (hc.oso _ (by simp))).num).mono ?_
   rintro en w9 ⟨a9,n9,c9,m9,e9,rfl,hs9,hz,hz9⟩
   have hR:=unhide HR
   exact hK _ _ ⟨⟨_,_,_,_,_,_,_,_,_,_,_,_,_,_,_,_,_,_,_,_,_,_,_,_,_,_,_,_,_,_,_,_,_,_,_,A11,N11,C11,M11,E11,_,_⟩,rfl,rfl,{ hR with hc:=(hc.call hs9 hz9 (fun y hy=>List.mem_cons_of_mem _ hy)),f5:=(fun _=>⟨rfl,List.mem_cons_self ..,hz⟩),f11:=(fun h=>Bool.noConfusion (hR.g11_5 h)),f14:=(fun h=>Bool.noConfusion (hR.g14_5 h)),f15:=(fun h=>Bool.noConfusion (hR.g15_5 h)),g11_5:=(fun _=>rfl),g14_5:=(fun _=>rfl),g15_5:=(fun _=>rfl) }⟩
  ·obtain rfl:b6 = false:=by simpa using hl9
   have hc:=hR.hc
   refine wpOp_step rfl fun K hK=>?_
   go_simp
   exact hK _ _ ⟨⟨_,_,_,_,_,_,_,_,_,_,_,_,_,_,_,_,_,_,_,_,_,_,_,_,_,_,_,_,_,_,A5,N5,C5,M5,E5,A11,N11,C11,M11,E11,_,_⟩,rfl,rfl,{ hR with hc:=hc,f6:=(fun _=>rfl) }⟩
  ·obtain rfl:b7 = false:=by simpa using hl9
   have hc:=hR.hc
   refine wpOp_step rfl fun K hK=>?_
   go_simp
   exact hK _ _ ⟨⟨_,_,_,_,_,_,_,_,_,_,_,_,_,_,_,_,_,_,_,_,_,_,_,_,_,_,_,_,_,_,A5,N5,C5,M5,E5,A11,N11,C11,M11,E11,_,_⟩,rfl,rfl,{ hR with hc:=hc,f7:=(fun _=>rfl) }⟩
  ·obtain rfl:b8 = false:=by simpa using hl9
   obtain ⟨o9,ho9,hd9⟩:=(mem_ready.1 hi9).2
   cases ho9
   have e7:b7 = true:=hd9 ⟨7,.data⟩ (by simp) rfl
   subst e7
   have h9:=hR.f7 rfl
   subst h9
   have hc:=hR.hc
   refine wpOp_step rfl fun K hK=>?_
   go_simp
   exact hK _ _ ⟨⟨_,_,_,_,_,_,_,_,_,_,_,_,_,_,_,_,_,_,_,_,_,_,_,_,_,_,_,_,_,_,A5,N5,C5,M5,E5,A11,N11,C11,M11,E11,_,_⟩,rfl,rfl,{ hR with hc:=hc,f8:=(fun _=>rfl) }⟩
  ·obtain rfl:b9 = false:=by simpa using hl9
   obtain ⟨o9,ho9,hd9⟩:=(mem_ready.1 hi9).2
   cases ho9
   have e8:b8 = true:=hd9 ⟨8,.data⟩ (by simp) rfl
   subst e8
   have h9:=hR.f8 rfl
   subst h9
   have hc:=hR.hc
   have c9_0:=hc.st.cellAt (hc.old ⟨w.heap.size,#[.bool s,.slice a1 n1 c1,.slice a2 n2 c2,.bool s,.slice a3 n3 c3,.slice a4 n4 c4],52⟩ (by simp)).1 2 (.slice a2 n2 c2) rfl
   simp only [] at c9_0
   refine wpOp_step rfl fun K hK=>?_
   go_simp
   exact hK _ _ ⟨⟨_,_,_,_,_,_,_,_,_,_,_,_,_,_,_,_,_,_,_,_,_,_,_,_,_,_,_,_,_,_,A5,N5,C5,M5,E5,A11,N11,C11,M11,E11,_,_⟩,rfl,rfl,{ hR with hc:=hc,f9:=(fun _=>rfl) }⟩
  ·obtain rfl:b10 = false:=by simpa using hl9
   have hc:=hR.hc
   have c9_0:=hc.st.cellAt (hc.old ⟨w3.heap.size,#[.slice yA3 yN3 yC3],27⟩ (by simp)).1 0 (.slice yA3 yN3 yC3) rfl
   simp only [] at c9_0
   refine wpOp_step rfl fun K hK=>?_
   go_simp
   exact hK _ _ ⟨⟨_,_,_,_,_,_,_,_,_,_,_,_,_,_,_,_,_,_,_,_,_,_,_,_,_,_,_,_,_,_,A5,N5,C5,M5,E5,A11,N11,C11,M11,E11,_,_⟩,rfl,rfl,{ hR with hc:=hc,f10:=(fun _=>rfl) }⟩
  ·obtain rfl:b11 = false:=by simpa using hl9
   obtain ⟨o9,ho9,hd9⟩:=(mem_ready.1 hi9).2
   cases ho9
   have e6:b6 = true:=hd9 ⟨6,.data⟩ (by simp) rfl
   have e9:b9 = true:=hd9 ⟨9,.data⟩ (by simp) rfl
   have e10:b10 = true:=hd9 ⟨10,.data⟩ (by simp) rfl
   have e5:b5 = true:=hd9 ⟨5,.chain⟩ (by simp) rfl
   subst e6 e9 e10 e5
   have h9:=hR.f6 rfl
   subst h9
   have h9:=hR.f9 rfl
   subst h9
   have h9:=hR.f10 rfl
   subst h9
   have q5:=hR.f5 rfl
   obtain ⟨h9,q5m,q5z⟩:=q5
   subst h9
   have hc:=hR.hc
   simp only [cond_true,cond_false] at hc
   have HR:=hide hR
   clear hR
   refine wpOp_step rfl fun K hK=>?_
   go_simp
   go_wp2_with fail
   refine (W_over hc.st c2 yC3 (hc.st.nm (a2,n2,d1) (by simp)) (hc.st.ow (yA3,yN3,yC3,yM3) (hc.oso _ (by simp))).num).mono ?_
   rintro en w9 ⟨a9,n9,c9,m9,e9,rfl,hs9,hz,hz9⟩
   have hR:=unhide HR
   exact hK _ _ ⟨⟨_,_,_,_,_,_,_,_,_,_,_,_,_,_,_,_,_,_,_,_,_,_,_,_,_,_,_,_,_,_,A5,N5,C5,M5,E5,_,_,_,_,_,_,_⟩,rfl,rfl,{ hR with hc:=(hc.call hs9 hz9 (fun y hy=>List.mem_cons_of_mem _ hy)),f5:=(fun h=>⟨(hR.f5 h).1,List.mem_cons_of_mem _ (hR.f5 h).2.1,(hR.f5 h).2.2⟩),f11:=(fun _=>⟨rfl,List.mem_cons_self ..,hz⟩),f15:=(fun h=>Bool.noConfusion (hR.g15_11 h)),g11_5:=(fun _=>rfl),g15_11:=(fun _=>rfl) }⟩
  ·obtain rfl:b12 = false:=by simpa using hl9
   have hc:=hR.hc
   refine wpOp_step rfl fun K hK=>?_
   go_simp
   exact hK _ _ ⟨⟨_,_,_,_,_,_,_,_,_,_,_,_,_,_,_,_,_,_,_,_,_,_,_,_,_,_,_,_,_,_,A5,N5,C5,M5,E5,A11,N11,C11,M11,E11,_,_⟩,rfl,rfl,{ hR with hc:=(hc.alloc #[.slice none 0 0] 27),f12:=(fun _=>AlV.self rfl hc.sz),f13:=(fun h=>(hR.f13 h).cons _),f14:=(fun h=>Bool.noConfusion (hR.g14_12 h)),f15:=(fun h=>(hR.f15 h).cons _),d12_13:=(fun _ h=>Ne.symm (AlV.ne (hR.f13 h) hc.st)),g14_12:=(fun _=>rfl) }⟩
  ·obtain rfl:b13 = false:=by simpa using hl9
   have hc:=hR.hc
   refine wpOp_step rfl fun K hK=>?_
   go_simp
   exact hK _ _ ⟨⟨_,_,_,_,_,_,_,_,_,_,_,_,_,_,_,_,_,_,_,_,_,_,_,_,_,_,_,_,_,_,A5,N5,C5,M5,E5,A11,N11,C11,M11,E11,_,_⟩,rfl,rfl,{ hR with hc:=(hc.alloc #[.slice none 0 0] 27),f12:=(fun h=>(hR.f12 h).cons _),f13:=(fun _=>AlV.self rfl hc.sz),f14:=(fun h=>(hR.f14 h).cons _),f15:=(fun h=>Bool.noConfusion (hR.g15_13 h)),d12_13:=(fun h _=>AlV.ne (hR.f12 h) hc.st),g15_13:=(fun _=>rfl) }⟩
  ·obtain rfl:b14 = false:=by simpa using hl9
   obtain ⟨o9,ho9,hd9⟩:=(mem_ready.1 hi9).2
   cases ho9
   have e5:b5 = true:=hd9 ⟨5,.data⟩ (by simp) rfl
   have e12:b12 = true:=hd9 ⟨12,.data⟩ (by simp) rfl
   subst e5 e12
   have q5:=hR.f5 rfl
   obtain ⟨h9,q5m,q5z⟩:=q5
   subst h9
   have hc:=hR.hc
   obtain ⟨g9,s9,h9,hg9,hm9⟩:=hR.f12 rfl
   subst h9
   have fz9:=hc.st.frozen hm9 0
   have cz9:=hc.st.cellAt hm9 0 s9 rfl
   simp only [] at fz9 cz9
   have hn9:∀ x,x∈([⟨w3.heap.size,#[.slice yA3 yN3 yC3],27⟩,⟨w2.heap.size+1,#[.slice yP2 yG2 yR2],27⟩,⟨w2.heap.size,#[.slice yA2 yN2 yC2],27⟩,⟨w1.heap.size+1,#[.slice yP1 yG1 yR1],27⟩,⟨w1.heap.size,#[.slice yA1 yN1 yC1],27⟩,⟨w.heap.size+1,#[.slice none 0 0,.slice none 0 0,.slice none 0 0,.slice none 0 0,.slice none 0 0,.bool false],111⟩,⟨w.heap.size,#[.bool s,.slice a1 n1 c1,.slice a2 n2 c2,.bool s,.slice a3 n3 c3,.slice a4 n4 c4],52⟩]:List En)→x.b≠g9:=fun x hx=>by have:=(hc.old x hx).2; omega
   refine wpOp_step rfl fun K hK=>?_
   go_simp
   exact hK _ _ ⟨⟨_,_,_,_,_,_,_,_,_,_,_,_,_,_,_,_,_,_,_,_,_,_,_,_,_,_,_,_,_,_,A5,N5,C5,M5,E5,A11,N11,C11,M11,E11,_,_⟩,rfl,rfl,{ hR with hc:=(hc.store hm9 (by have:=hc.w0s; omega) hn9 0 (.slice A5 N5 C5) (by simp)),f12:=(fun _=>AlV.self rfl hg9),f13:=(fun h=>(hR.f13 h).but (fun e=>hR.d12_13 rfl h e.symm) _),f14:=(fun _=>⟨g9,_,rfl,hg9,rfl,List.mem_cons_self ..⟩),f15:=(fun h=>(hR.f15 h).but (fun e=>hR.d12_13 rfl (hR.g15_13 h) e.symm) _),g14_12:=(fun _=>rfl),g14_5:=(fun _=>rfl) }⟩
  ·obtain rfl:b15 = false:=by simpa using hl9
   obtain ⟨o9,ho9,hd9⟩:=(mem_ready.1 hi9).2
   cases ho9
   have e11:b11 = true:=hd9 ⟨11,.data⟩ (by simp) rfl
   have e13:b13 = true:=hd9 ⟨13,.data⟩ (by simp) rfl
   subst e11 e13
   have q11:=hR.f11 rfl
   obtain ⟨h9,q11m,q11z⟩:=q11
   subst h9
   have hc:=hR.hc
   obtain ⟨g9,s9,h9,hg9,hm9⟩:=hR.f13 rfl
   subst h9
   have fz9:=hc.st.frozen hm9 0
   have cz9:=hc.st.cellAt hm9 0 s9 rfl
   simp only [] at fz9 cz9
   have hn9:∀ x,x∈([⟨w3.heap.size,#[.slice yA3 yN3 yC3],27⟩,⟨w2.heap.size+1,#[.slice yP2 yG2 yR2],27⟩,⟨w2.heap.size,#[.slice yA2 yN2 yC2],27⟩,⟨w1.heap.size+1,#[.slice yP1 yG1 yR1],27⟩,⟨w1.heap.size,#[.slice yA1 yN1 yC1],27⟩,⟨w.heap.size+1,#[.slice none 0 0,.slice none 0 0,.slice none 0 0,.slice none 0 0,.slice none 0 0,.bool false],111⟩,⟨w.heap.size,#[.bool s,.slice a1 n1 c1,.slice a2 n2 c2,.bool s,.slice a3 n3 c3,.slice a4 n4 c4],52⟩]:List En)→x.b≠g9:=fun x hx=>by have:=(hc.old x hx).2; omega
   refine wpOp_step rfl fun K hK=>?_
   go_simp
   exact hK _ _ ⟨⟨_,_,_,_,_,_,_,_,_,_,_,_,_,_,_,_,_,_,_,_,_,_,_,_,_,_,_,_,_,_,A5,N5,C5,M5,E5,A11,N11,C11,M11,E11,_,_⟩,rfl,rfl,{ hR with hc:=(hc.store hm9 (by have:=hc.w0s; omega) hn9 0 (.slice A11 N11 C11) (by simp)),f12:=(fun h=>(hR.f12 h).but (fun e=>hR.d12_13 h rfl e) _),f13:=(fun _=>AlV.self rfl hg9),f14:=(fun h=>(hR.f14 h).but (fun e=>hR.d12_13 (hR.g14_12 h) rfl e) _),f15:=(fun _=>⟨g9,_,rfl,hg9,rfl,List.mem_cons_self ..⟩),g15_13:=(fun _=>rfl),g15_11:=(fun _=>rfl),g15_5:=(fun _=>hR.g11_5 rfl) }⟩
 ·rintro l act Wq4 ⟨⟨b0,b1,b2,b3,b4,b5,b6,b7,b8,b9,b10,b11,b12,b13,b14,b15,v0,v1,v2,v3,v4,v5,v6,v7,v8,v9,v10,v11,v12,v13,x4_A5,x4_N5,x4_C5,x4_M5,x4_E5,x4_A11,x4_N11,x4_C11,x4_M11,x4_E11,bs9,os9⟩,rfl,rfl,hR⟩ hr9
  obtain ⟨hc,f0,f1,f2,f3,f4,f5,f6,f7,f8,f9,f10,f11,f12,f13,f14,f15,d12_13,g11_5,g14_12,g14_5,g15_13,g15_11,g15_5⟩:=hR
  have eall:=all_done hr9 (by kernel_rfl) rfl
  obtain rfl:b0 = true:=eall 0 (by decide)
  obtain rfl:b1 = true:=eall 1 (by decide)
  obtain rfl:b2 = true:=eall 2 (by decide)
  obtain rfl:b3 = true:=eall 3 (by decide)
  obtain rfl:b4 = true:=eall 4 (by decide)
  obtain rfl:b5 = true:=eall 5 (by decide)
  obtain rfl:b6 = true:=eall 6 (by decide)
  obtain rfl:b7 = true:=eall 7 (by decide)
  obtain rfl:b8 = true:=eall 8 (by decide)
  obtain rfl:b9 = true:=eall 9 (by decide)
  obtain rfl:b10 = true:=eall 10 (by decide)
  obtain rfl:b11 = true:=eall 11 (by decide)
  obtain rfl:b12 = true:=eall 12 (by decide)
  obtain rfl:b13 = true:=eall 13 (by decide)
  obtain rfl:b14 = true:=eall 14 (by decide)
  obtain rfl:b15 = true:=eall 15 (by decide)
  clear hr9 eall
  have h9:=f0 rfl
  subst h9
  have h9:=f1 rfl
  subst h9
  have h9:=f2 rfl
  subst h9
  have h9:=f3 rfl
  subst h9
  have h9:=f4 rfl
  subst h9
  obtain ⟨h9,q5m,qx4_5⟩:=f5 rfl
  subst h9
  have h9:=f6 rfl
  subst h9
  have h9:=f7 rfl
  subst h9
  have h9:=f8 rfl
  subst h9
  have h9:=f9 rfl
  subst h9
  have h9:=f10 rfl
  subst h9
  obtain ⟨h9,q11m,qx4_11⟩:=f11 rfl
  subst h9
  obtain ⟨x4_g12,s9,h9,hg12,hs9,hm12⟩:=f14 rfl
  subst h9
  obtain rfl:s9 = .slice x4_A5 x4_N5 x4_C5:=by simpa using hs9.symm
  clear hs9
  obtain ⟨x4_g13,s9,h9,hg13,hs9,hm13⟩:=f15 rfl
  subst h9
  obtain rfl:s9 = .slice x4_A11 x4_N11 x4_C11:=by simpa using hs9.symm
  clear hs9
  simp only [cond_true] at hc
  have hbs9:∀ x,x∈([⟨x4_g13,#[.slice x4_A11 x4_N11 x4_C11],27⟩,⟨x4_g12,#[.slice x4_A5 x4_N5 x4_C5],27⟩,⟨w3.heap.size,#[.slice yA3 yN3 yC3],27⟩,⟨w2.heap.size+1,#[.slice yP2 yG2 yR2],27⟩,⟨w2.heap.size,#[.slice yA2 yN2 yC2],27⟩,⟨w1.heap.size+1,#[.slice yP1 yG1 yR1],27⟩,⟨w1.heap.size,#[.slice yA1 yN1 yC1],27⟩,⟨w.heap.size+1,#[.slice none 0 0,.slice none 0 0,.slice none 0 0,.slice none 0 0,.slice none 0 0,.bool false],111⟩,⟨w.heap.size,#[.bool s,.slice a1 n1 c1,.slice a2 n2 c2,.bool s,.slice a3 n3 c3,.slice a4 n4 c4],52⟩]:List En)→x∈bs9:=by
   intro x hx
   rcases List.mem_cons.1 hx with rfl|hx
   ·exact hm13
   rcases List.mem_cons.1 hx with rfl|hx
   ·exact hm12
   rcases List.mem_cons.1 hx with rfl|hx
   ·exact (hc.old _ (by simp)).1
   rcases List.mem_cons.1 hx with rfl|hx
   ·exact (hc.old _ (by simp)).1
   rcases List.mem_cons.1 hx with rfl|hx
   ·exact (hc.old _ (by simp)).1
   rcases List.mem_cons.1 hx with rfl|hx
   ·exact (hc.old _ (by simp)).1
   rcases List.mem_cons.1 hx with rfl|hx
   ·exact (hc.old _ (by simp)).1
   rcases List.mem_cons.1 hx with rfl|hx
   ·exact (hc.old _ (by simp)).1
   rcases List.mem_cons.1 hx with rfl|hx
   ·exact (hc.old _ (by simp)).1
   exact absurd hx List.not_mem_nil
  have hos9:∀ x,x∈([(x4_A5,x4_N5,x4_C5,x4_M5),(x4_A11,x4_N11,x4_C11,x4_M11),(yA3,yN3,yC3,yM3),(yP2,yG2,yR2,yL2),(yA2,yN2,yC2,yM2),(yP1,yG1,yR1,yL1),(yA1,yN1,yC1,yM1)]:Os)→x∈os9:=by
   intro x hx
   rcases List.mem_cons.1 hx with rfl|hx
   ·exact q5m
   rcases List.mem_cons.1 hx with rfl|hx
   ·exact q11m
   rcases List.mem_cons.1 hx with rfl|hx
   ·exact hc.oso _ (by simp)
   rcases List.mem_cons.1 hx with rfl|hx
   ·exact hc.oso _ (by simp)
   rcases List.mem_cons.1 hx with rfl|hx
   ·exact hc.oso _ (by simp)
   rcases List.mem_cons.1 hx with rfl|hx
   ·exact hc.oso _ (by simp)
   rcases List.mem_cons.1 hx with rfl|hx
   ·exact hc.oso _ (by simp)
   exact absurd hx List.not_mem_nil
  have hS:=hc.st.sub hbs9 (fun x hx=>hx) hos9
  have hsz9:=hc.sz
  rw [hS9z,hsW9] at hsz9
  have hlx4_g12:=hg12
  rw [hS9z,hsW9] at hlx4_g12
  have hux4_g12:=block_lt (hc.st.bx _ hm12).1
  simp only [] at hux4_g12
  have hlx4_g13:=hg13
  rw [hS9z,hsW9] at hlx4_g13
  have hux4_g13:=block_lt (hc.st.bx _ hm13).1
  simp only [] at hux4_g13
  have hnx4_12_13:x4_g12≠x4_g13:=fun e9=>d12_13 rfl rfl (by rw [e9])
  clear hbs9 hos9 hc f0 f1 f2 f3 f4 f5 f6 f7 f8 f9 f10 f11 f12 f13 f14 f15 d12_13 g11_5 g14_12 g14_5 g15_13 g15_11 g15_5
  clear q5m q11m hm12 hm13 hg12 hg13
  have hz4:=hsz9
  clear hsz9 hS9z hS9 hC9 hsW9
  have Qx4_5:=hide qx4_5
  clear qx4_5
  have Qx4_11:=hide qx4_11
  clear qx4_11
  obtain ⟨⟨k0_0,-⟩,z0⟩:=hS.cz ⟨x4_g13,#[.slice x4_A11 x4_N11 x4_C11],27⟩ (by simp)
  have z0_0:=z0 0
  clear z0
  obtain ⟨⟨k1_0,-⟩,z1⟩:=hS.cz ⟨x4_g12,#[.slice x4_A5 x4_N5 x4_C5],27⟩ (by simp)
  have z1_0:=z1 0
  clear z1
  obtain ⟨⟨k2_0,-⟩,z2⟩:=hS.cz ⟨w3.heap.size,#[.slice yA3 yN3 yC3],27⟩ (by simp)
  have z2_0:=z2 0
  clear z2
  obtain ⟨⟨k3_0,-⟩,z3⟩:=hS.cz ⟨w2.heap.size+1,#[.slice yP2 yG2 yR2],27⟩ (by simp)
  have z3_0:=z3 0
  clear z3
  obtain ⟨⟨k4_0,-⟩,z4⟩:=hS.cz ⟨w2.heap.size,#[.slice yA2 yN2 yC2],27⟩ (by simp)
  have z4_0:=z4 0
  clear z4
  obtain ⟨⟨k5_0,-⟩,z5⟩:=hS.cz ⟨w1.heap.size+1,#[.slice yP1 yG1 yR1],27⟩ (by simp)
  have z5_0:=z5 0
  clear z5
  obtain ⟨⟨k6_0,-⟩,z6⟩:=hS.cz ⟨w1.heap.size,#[.slice yA1 yN1 yC1],27⟩ (by simp)
  have z6_0:=z6 0
  clear z6
  obtain ⟨⟨k7_0,k7_1,k7_2,k7_3,k7_4,k7_5,-⟩,z7⟩:=hS.cz ⟨w.heap.size+1,#[.slice none 0 0,.slice none 0 0,.slice none 0 0,.slice none 0 0,.slice none 0 0,.bool false],111⟩ (by simp)
  have z7_0:=z7 0
  have z7_1:=z7 1
  have z7_2:=z7 2
  have z7_3:=z7 3
  have z7_4:=z7 4
  have z7_5:=z7 5
  clear z7
  obtain ⟨⟨k8_0,k8_1,k8_2,k8_3,k8_4,k8_5,-⟩,z8⟩:=hS.cz ⟨w.heap.size,#[.bool s,.slice a1 n1 c1,.slice a2 n2 c2,.bool s,.slice a3 n3 c3,.slice a4 n4 c4],52⟩ (by simp)
  have z8_0:=z8 0
  have z8_1:=z8 1
  have z8_2:=z8 2
  have z8_3:=z8 3
  have z8_4:=z8 4
  have z8_5:=z8 5
  clear z8
  simp only [] at k0_0 z0_0 k1_0 z1_0 k2_0 z2_0 k3_0 z3_0 k4_0 z4_0 k5_0 z5_0 k6_0 z6_0 k7_0 z7_0 k7_1 z7_1 k7_2 z7_2 k7_3 z7_3 k7_4 z7_4 k7_5 z7_5 k8_0 z8_0 k8_1 z8_1 k8_2 z8_2 k8_3 z8_3 k8_4 z8_4 k8_5 z8_5
  go_wp2_with fail
  clear k0_0 z0_0 k1_0 z1_0 k2_0 z2_0 k3_0 z3_0 k4_0 z4_0 k5_0 z5_0 k6_0 z6_0 k7_0 z7_0 k7_1 z7_1 k7_2 z7_2 k7_3 z7_3 k7_4 z7_4 k7_5 z7_5 k8_0 z8_0 k8_1 z8_1 k8_2 z8_2 k8_3 z8_3 k8_4 z8_4 k8_5 z8_5
  refine (W_mulOver hS yR1 x4_C5 yC3 (hS.ow (yP1,yG1,yR1,yL1) (by simp)).num (hS.ow (x4_A5,x4_N5,x4_C5,x4_M5) (by simp)).num (hS.ow (yA3,yN3,yC3,yM3) (by simp)).num).mono ?_
  clear hS; rintro en w5 ⟨yA5,yN5,yC5,yM5,yP5,yG5,yR5,yL5,yE5,rfl,hS,q5,hz5⟩
  have Q5:=hide q5
  clear q5
  replace hS:=hS.alloc #[.slice yA5 yN5 yC5] 27
  try simp only [World.size_alloc] at hS
  replace hS:=hS.alloc #[.slice yP5 yG5 yR5] 27
  try simp only [World.size_alloc] at hS
  obtain ⟨⟨k0_0,-⟩,z0⟩:=hS.cz ⟨w5.heap.size+1,#[.slice yP5 yG5 yR5],27⟩ (by simp)
  have z0_0:=z0 0
  clear z0
  obtain ⟨⟨k1_0,-⟩,z1⟩:=hS.cz ⟨w5.heap.size,#[.slice yA5 yN5 yC5],27⟩ (by simp)
  have z1_0:=z1 0
  clear z1
  obtain ⟨⟨k2_0,-⟩,z2⟩:=hS.cz ⟨x4_g13,#[.slice x4_A11 x4_N11 x4_C11],27⟩ (by simp)
  have z2_0:=z2 0
  clear z2
  obtain ⟨⟨k3_0,-⟩,z3⟩:=hS.cz ⟨x4_g12,#[.slice x4_A5 x4_N5 x4_C5],27⟩ (by simp)
  have z3_0:=z3 0
  clear z3
  obtain ⟨⟨k4_0,-⟩,z4⟩:=hS.cz ⟨w3.heap.size,#[.slice yA3 yN3 yC3],27⟩ (by simp)
  have z4_0:=z4 0
  clear z4
  obtain ⟨⟨k5_0,-⟩,z5⟩:=hS.cz ⟨w2.heap.size+1,#[.slice yP2 yG2 yR2],27⟩ (by simp)
  have z5_0:=z5 0
  clear z5
  obtain ⟨⟨k6_0,-⟩,z6⟩:=hS.cz ⟨w2.heap.size,#[.slice yA2 yN2 yC2],27⟩ (by simp)
  have z6_0:=z6 0
  clear z6
  obtain ⟨⟨k7_0,-⟩,z7⟩:=hS.cz ⟨w1.heap.size+1,#[.slice yP1 yG1 yR1],27⟩ (by simp)
  have z7_0:=z7 0
  clear z7
  obtain ⟨⟨k8_0,-⟩,z8⟩:=hS.cz ⟨w1.heap.size,#[.slice yA1 yN1 yC1],27⟩ (by simp)
  have z8_0:=z8 0
  clear z8
  obtain ⟨⟨k9_0,k9_1,k9_2,k9_3,k9_4,k9_5,-⟩,z9⟩:=hS.cz ⟨w.heap.size+1,#[.slice none 0 0,.slice none 0 0,.slice none 0 0,.slice none 0 0,.slice none 0 0,.bool false],111⟩ (by simp)
  have z9_0:=z9 0
  have z9_1:=z9 1
  have z9_2:=z9 2
  have z9_3:=z9 3
  have z9_4:=z9 4
  have z9_5:=z9 5
  clear z9
  obtain ⟨⟨k10_0,k10_1,k10_2,k10_3,k10_4,k10_5,-⟩,z10⟩:=hS.cz ⟨w.heap.size,#[.bool s,.slice a1 n1 c1,.slice a2 n2 c2,.bool s,.slice a3 n3 c3,.slice a4 n4 c4],52⟩ (by simp)
  have z10_0:=z10 0
  have z10_1:=z10 1
  have z10_2:=z10 2
  have z10_3:=z10 3
  have z10_4:=z10 4
  have z10_5:=z10 5
  clear z10
  simp only [] at k0_0 z0_0 k1_0 z1_0 k2_0 z2_0 k3_0 z3_0 k4_0 z4_0 k5_0 z5_0 k6_0 z6_0 k7_0 z7_0 k8_0 z8_0 k9_0 z9_0 k9_1 z9_1 k9_2 z9_2 k9_3 z9_3 k9_4 z9_4 k9_5 z9_5 k10_0 z10_0 k10_1 z10_1 k10_2 z10_2 k10_3 z10_3 k10_4 z10_4 k10_5 z10_5
  go_wp2_with fail
  clear k0_0 z0_0 k1_0 z1_0 k2_0 z2_0 k3_0 z3_0 k4_0 z4_0 k5_0 z5_0 k6_0 z6_0 k7_0 z7_0 k8_0 z8_0 k9_0 z9_0 k9_1 z9_1 k9_2 z9_2 k9_3 z9_3 k9_4 z9_4 k9_5 z9_5 k10_0 z10_0 k10_1 z10_1 k10_2 z10_2 k10_3 z10_3 k10_4 z10_4 k10_5 z10_5
  refine (W_mulOver hS yR2 x4_C11 yC3 (hS.ow (yP2,yG2,yR2,yL2) (by simp)).num (hS.ow (x4_A11,x4_N11,x4_C11,x4_M11) (by simp)).num (hS.ow (yA3,yN3,yC3,yM3) (by simp)).num).mono ?_
  clear hS; rintro en w6 ⟨yA6,yN6,yC6,yM6,yP6,yG6,yR6,yL6,yE6,rfl,hS,q6,hz6⟩
  have Q6:=hide q6
  clear q6
  simp only [World.size_alloc] at hz6
  replace hS:=hS.alloc #[.slice yA6 yN6 yC6] 27
  try simp only [World.size_alloc] at hS
  replace hS:=hS.alloc #[.slice yP6 yG6 yR6] 27
  try simp only [World.size_alloc] at hS
  obtain ⟨⟨k0_0,-⟩,z0⟩:=hS.cz ⟨w6.heap.size+1,#[.slice yP6 yG6 yR6],27⟩ (by simp)
  have z0_0:=z0 0
  clear z0
  obtain ⟨⟨k1_0,-⟩,z1⟩:=hS.cz ⟨w6.heap.size,#[.slice yA6 yN6 yC6],27⟩ (by simp)
  have z1_0:=z1 0
  clear z1
  obtain ⟨⟨k2_0,-⟩,z2⟩:=hS.cz ⟨w5.heap.size+1,#[.slice yP5 yG5 yR5],27⟩ (by simp)
  have z2_0:=z2 0
  clear z2
  obtain ⟨⟨k3_0,-⟩,z3⟩:=hS.cz ⟨w5.heap.size,#[.slice yA5 yN5 yC5],27⟩ (by simp)
  have z3_0:=z3 0
  clear z3
  obtain ⟨⟨k4_0,-⟩,z4⟩:=hS.cz ⟨x4_g13,#[.slice x4_A11 x4_N11 x4_C11],27⟩ (by simp)
  have z4_0:=z4 0
  clear z4
  obtain ⟨⟨k5_0,-⟩,z5⟩:=hS.cz ⟨x4_g12,#[.slice x4_A5 x4_N5 x4_C5],27⟩ (by simp)
  have z5_0:=z5 0
  clear z5
  obtain ⟨⟨k6_0,-⟩,z6⟩:=hS.cz ⟨w3.heap.size,#[.slice yA3 yN3 yC3],27⟩ (by simp)
  have z6_0:=z6 0
  clear z6
  obtain ⟨⟨k7_0,-⟩,z7⟩:=hS.cz ⟨w2.heap.size+1,#[.slice yP2 yG2 yR2],27⟩ (by simp)
  have z7_0:=z7 0
  clear z7
  obtain ⟨⟨k8_0,-⟩,z8⟩:=hS.cz ⟨w2.heap.size,#[.slice yA2 yN2 yC2],27⟩ (by simp)
  have z8_0:=z8 0
  clear z8
  obtain ⟨⟨k9_0,-⟩,z9⟩:=hS.cz ⟨w1.heap.size+1,#[.slice yP1 yG1 yR1],27⟩ (by simp)
  have z9_0:=z9 0
  clear z9
  obtain ⟨⟨k10_0,-⟩,z10⟩:=hS.cz ⟨w1.heap.size,#[.slice yA1 yN1 yC1],27⟩ (by simp)
  have z10_0:=z10 0
  clear z10
  obtain ⟨⟨k11_0,k11_1,k11_2,k11_3,k11_4,k11_5,-⟩,z11⟩:=hS.cz ⟨w.heap.size+1,#[.slice none 0 0,.slice none 0 0,.slice none 0 0,.slice none 0 0,.slice none 0 0,.bool false],111⟩ (by simp)
  have z11_0:=z11 0
  have z11_1:=z11 1
  have z11_2:=z11 2
  have z11_3:=z11 3
  have z11_4:=z11 4
  have z11_5:=z11 5
  clear z11
  obtain ⟨⟨k12_0,k12_1,k12_2,k12_3,k12_4,k12_5,-⟩,z12⟩:=hS.cz ⟨w.heap.size,#[.bool s,.slice a1 n1 c1,.slice a2 n2 c2,.bool s,.slice a3 n3 c3,.slice a4 n4 c4],52⟩ (by simp)
  have z12_0:=z12 0
  have z12_1:=z12 1
  have z12_2:=z12 2
  have z12_3:=z12 3
  have z12_4:=z12 4
  have z12_5:=z12 5
  clear z12
  simp only [] at k0_0 z0_0 k1_0 z1_0 k2_0 z2_0 k3_0 z3_0 k4_0 z4_0 k5_0 z5_0 k6_0 z6_0 k7_0 z7_0 k8_0 z8_0 k9_0 z9_0 k10_0 z10_0 k11_0 z11_0 k11_1 z11_1 k11_2 z11_2 k11_3 z11_3 k11_4 z11_4 k11_5 z11_5 k12_0 z12_0 k12_1 z12_1 k12_2 z12_2 k12_3 z12_3 k12_4 z12_4 k12_5 z12_5
  go_wp2_with fail
  clear k0_0 z0_0 k1_0 z1_0 k2_0 z2_0 k3_0 z3_0 k4_0 z4_0 k5_0 z5_0 k6_0 z6_0 k7_0 z7_0 k8_0 z8_0 k9_0 z9_0 k10_0 z10_0 k11_0 z11_0 k11_1 z11_1 k11_2 z11_2 k11_3 z11_3 k11_4 z11_4 k11_5 z11_5 k12_0 z12_0 k12_1 z12_1 k12_2 z12_2 k12_3 z12_3 k12_4 z12_4 k12_5 z12_5
  refine (W_sub hS yC3 yR6 (hS.ow (yA3,yN3,yC3,yM3) (by simp)).num (hS.ow (yP6,yG6,yR6,yL6) (by simp)).num).mono ?_
  clear hS; rintro en w7 ⟨yA7,yN7,yC7,yM7,yE7,rfl,hS,q7,hz7⟩
  have Q7:=hide q7
  clear q7
  simp only [World.size_alloc] at hz7
  have u1:=hS.cellAt (x:=⟨w6.heap.size+1,#[.slice yP6 yG6 yR6],27⟩) (by simp) 0 (.slice yP6 yG6 yR6) rfl
  have y1:=hS.frozen (x:=⟨w6.heap.size+1,#[.slice yP6 yG6 yR6],27⟩) (by simp) 0
  simp only [] at u1 y1
  replace hS:=hS.put (x:=⟨w6.heap.size+1,#[.slice yP6 yG6 yR6],27⟩) (by simp) (by simp only []; omega) 0 (.slice yA7 yN7 yC7) (by simp) [⟨w6.heap.size+1,#[.slice yA7 yN7 yC7],27⟩,⟨w6.heap.size,#[.slice yA6 yN6 yC6],27⟩,⟨w5.heap.size+1,#[.slice yP5 yG5 yR5],27⟩,⟨w5.heap.size,#[.slice yA5 yN5 yC5],27⟩,⟨x4_g13,#[.slice x4_A11 x4_N11 x4_C11],27⟩,⟨x4_g12,#[.slice x4_A5 x4_N5 x4_C5],27⟩,⟨w3.heap.size,#[.slice yA3 yN3 yC3],27⟩,⟨w2.heap.size+1,#[.slice yP2 yG2 yR2],27⟩,⟨w2.heap.size,#[.slice yA2 yN2 yC2],27⟩,⟨w1.heap.size+1,#[.slice yP1 yG1 yR1],27⟩,⟨w1.heap.size,#[.slice yA1 yN1 yC1],27⟩,⟨w.heap.size+1,#[.slice none 0 0,.slice none 0 0,.slice none 0 0,.slice none 0 0,.slice none 0 0,.bool false],111⟩,⟨w.heap.size,#[.bool s,.slice a1 n1 c1,.slice a2 n2 c2,.bool s,.slice a3 n3 c3,.slice a4 n4 c4],52⟩] (by intro y hy; rcases List.mem_cons.1 hy with rfl|hy; exact Or.inl rfl; rcases List.mem_cons.1 hy with rfl|hy; exact Or.inr ⟨by simp,by simp only []; omega⟩; rcases List.mem_cons.1 hy with rfl|hy; exact Or.inr ⟨by simp,by simp only []; omega⟩; rcases List.mem_cons.1 hy with rfl|hy; exact Or.inr ⟨by simp,by simp only []; omega⟩; rcases List.mem_cons.1 hy with rfl|hy; exact Or.inr ⟨by simp,by simp only []; omega⟩; rcases List.mem_cons.1 hy with rfl|hy; exact Or.inr ⟨by simp,by simp only []; omega⟩; rcases List.mem_cons.1 hy with rfl|hy; exact Or.inr ⟨by simp,by simp only []; omega⟩; rcases List.mem_cons.1 hy with rfl|hy; exact Or.inr ⟨by simp,by simp only []; omega⟩; rcases List.mem_cons.1 hy with rfl|hy; exact Or.inr ⟨by simp,by simp only []; omega⟩; rcases List.mem_cons.1 hy with rfl|hy; exact Or.inr ⟨by simp,by simp only []; omega⟩; rcases List.mem_cons.1 hy with rfl|hy; exact Or.inr ⟨by simp,by simp only []; omega⟩; rcases List.mem_cons.1 hy with rfl|hy; exact Or.inr ⟨by simp,by simp only []; omega⟩; rcases List.mem_cons.1 hy with rfl|hy; exact Or.inr ⟨by simp,by simp only []; omega⟩; exact absurd hy List.not_mem_nil)
  obtain ⟨⟨k0_0,-⟩,z0⟩:=hS.cz ⟨w6.heap.size+1,#[.slice yA7 yN7 yC7],27⟩ (by simp)
  have z0_0:=z0 0
  clear z0
  obtain ⟨⟨k1_0,-⟩,z1⟩:=hS.cz ⟨w6.heap.size,#[.slice yA6 yN6 yC6],27⟩ (by simp)
  have z1_0:=z1 0
  clear z1
  obtain ⟨⟨k2_0,-⟩,z2⟩:=hS.cz ⟨w5.heap.size+1,#[.slice yP5 yG5 yR5],27⟩ (by simp)
  have z2_0:=z2 0
  clear z2
  obtain ⟨⟨k3_0,-⟩,z3⟩:=hS.cz ⟨w5.heap.size,#[.slice yA5 yN5 yC5],27⟩ (by simp)
  have z3_0:=z3 0
  clear z3
  obtain ⟨⟨k4_0,-⟩,z4⟩:=hS.cz ⟨x4_g13,#[.slice x4_A11 x4_N11 x4_C11],27⟩ (by simp)
  have z4_0:=z4 0
  clear z4
  obtain ⟨⟨k5_0,-⟩,z5⟩:=hS.cz ⟨x4_g12,#[.slice x4_A5 x4_N5 x4_C5],27⟩ (by simp)
  have z5_0:=z5 0
  clear z5
  obtain ⟨⟨k6_0,-⟩,z6⟩:=hS.cz ⟨w3.heap.size,#[.slice yA3 yN3 yC3],27⟩ (by simp)
  have z6_0:=z6 0
  clear z6
  obtain ⟨⟨k7_0,-⟩,z7⟩:=hS.cz ⟨w2.heap.size+1,#[.slice yP2 yG2 yR2],27⟩ (by simp)
  have z7_0:=z7 0
  clear z7
  obtain ⟨⟨k8_0,-⟩,z8⟩:=hS.cz ⟨w2.heap.size,#[.slice yA2 yN2 yC2],27⟩ (by simp)
  have z8_0:=z8 0
  clear z8
  obtain ⟨⟨k9_0,-⟩,z9⟩:=hS.cz ⟨w1.heap.size+1,#[.slice yP1 yG1 yR1],27⟩ (by simp)
  have z9_0:=z9 0
  clear z9
  obtain ⟨⟨k10_0,-⟩,z10⟩:=hS.cz ⟨w1.heap.size,#[.slice yA1 yN1 yC1],27⟩ (by simp)
  have z10_0:=z10 0
  clear z10
  obtain ⟨⟨k11_0,k11_1,k11_2,k11_3,k11_4,k11_5,-⟩,z11⟩:=hS.cz ⟨w.heap.size+1,#[.slice none 0 0,.slice none 0 0,.slice none 0 0,.slice none 0 0,.slice none 0 0,.bool false],111⟩ (by simp)
  have z11_0:=z11 0
  have z11_1:=z11 1
  have z11_2:=z11 2
  have z11_3:=z11 3
  have z11_4:=z11 4
  have z11_5:=z11 5
  clear z11
  obtain ⟨⟨k12_0,k12_1,k12_2,k12_3,k12_4,k12_5,-⟩,z12⟩:=hS.cz ⟨w.heap.size,#[.bool s,.slice a1 n1 c1,.slice a2 n2 c2,.bool s,.slice a3 n3 c3,.slice a4 n4 c4],52⟩ (by simp)
  have z12_0:=z12 0
  have z12_1:=z12 1
  have z12_2:=z12 2
  have z12_3:=z12 3
  have z12_4:=z12 4
  have z12_5:=z12 5
  clear z12
  simp only [] at k0_0 z0_0 k1_0 z1_0 k2_0 z2_0 k3_0 z3_0 k4_0 z4_0 k5_0 z5_0 k6_0 z6_0 k7_0 z7_0 k8_0 z8_0 k9_0 z9_0 k10_0 z10_0 k11_0 z11_0 k11_1 z11_1 k11_2 z11_2 k11_3 z11_3 k11_4 z11_4 k11_5 z11_5 k12_0 z12_0 k12_1 z12_1 k12_2 z12_2 k12_3 z12_3 k12_4 z12_4 k12_5 z12_5
  go_wp2_with fail
  clear k0_0 z0_0 k1_0 z1_0 k2_0 z2_0 k3_0 z3_0 k4_0 z4_0 k5_0 z5_0 k6_0 z6_0 k7_0 z7_0 k8_0 z8_0 k9_0 z9_0 k10_0 z10_0 k11_0 z11_0 k11_1 z11_1 k11_2 z11_2 k11_3 z11_3 k11_4 z11_4 k11_5 z11_5 k12_0 z12_0 k12_1 z12_1 k12_2 z12_2 k12_3 z12_3 k12_4 z12_4 k12_5 z12_5
  replace hS:=hS.sub (bs':=[⟨w6.heap.size+1,#[.slice yA7 yN7 yC7],27⟩,⟨w5.heap.size+1,#[.slice yP5 yG5 yR5],27⟩,⟨x4_g13,#[.slice x4_A11 x4_N11 x4_C11],27⟩,⟨x4_g12,#[.slice x4_A5 x4_N5 x4_C5],27⟩,⟨w3.heap.size,#[.slice yA3 yN3 yC3],27⟩,⟨w2.heap.size+1,#[.slice yP2 yG2 yR2],27⟩,⟨w2.heap.size,#[.slice yA2 yN2 yC2],27⟩,⟨w1.heap.size+1,#[.slice yP1 yG1 yR1],27⟩,⟨w1.heap.size,#[.slice yA1 yN1 yC1],27⟩,⟨w.heap.size+1,#[.slice none 0 0,.slice none 0 0,.slice none 0 0,.slice none 0 0,.slice none 0 0,.bool false],111⟩,⟨w.heap.size,#[.bool s,.slice a1 n1 c1,.slice a2 n2 c2,.bool s,.slice a3 n3 c3,.slice a4 n4 c4],52⟩]) (ms':=[(a4,n4,d2),(a3,n3,m2),(a2,n2,d1),(a1,n1,m1)]) (os':=[(yA7,yN7,yC7,yM7),(yP5,yG5,yR5,yL5),(x4_A5,x4_N5,x4_C5,x4_M5),(x4_A11,x4_N11,x4_C11,x4_M11),(yA3,yN3,yC3,yM3),(yP2,yG2,yR2,yL2),(yA2,yN2,yC2,yM2),(yP1,yG1,yR1,yL1),(yA1,yN1,yC1,yM1)]) (by intro x hx; rcases List.mem_cons.1 hx with rfl|hx; (simp); rcases List.mem_cons.1 hx with rfl|hx; (simp); rcases List.mem_cons.1 hx with rfl|hx; (simp); rcases List.mem_cons.1 hx with rfl|hx; (simp); rcases List.mem_cons.1 hx with rfl|hx; (simp); rcases List.mem_cons.1 hx with rfl|hx; (simp); rcases List.mem_cons.1 hx with rfl|hx; (simp); rcases List.mem_cons.1 hx with rfl|hx; (simp); rcases List.mem_cons.1 hx with rfl|hx; (simp); rcases List.mem_cons.1 hx with rfl|hx; (simp); rcases List.mem_cons.1 hx with rfl|hx; (simp); exact absurd hx List.not_mem_nil) (by intro x hx; rcases List.mem_cons.1 hx with rfl|hx; (simp); rcases List.mem_cons.1 hx with rfl|hx; (simp); rcases List.mem_cons.1 hx with rfl|hx; (simp); rcases List.mem_cons.1 hx with rfl|hx; (simp); exact absurd hx List.not_mem_nil) (by intro x hx; rcases List.mem_cons.1 hx with rfl|hx; (simp); rcases List.mem_cons.1 hx with rfl|hx; (simp); rcases List.mem_cons.1 hx with rfl|hx; (simp); rcases List.mem_cons.1 hx with rfl|hx; (simp); rcases List.mem_cons.1 hx with rfl|hx; (simp); rcases List.mem_cons.1 hx with rfl|hx; (simp); rcases List.mem_cons.1 hx with rfl|hx; (simp); rcases List.mem_cons.1 hx with rfl|hx; (simp); rcases List.mem_cons.1 hx with rfl|hx; (simp); exact absurd hx List.not_mem_nil)
  refine wp_region_any (by kernel_rfl) ?_
  change wpAny _ _ _ _ _ _ _ (World.drew _)
  have hS9:=hS.drew
  have hsW9:(World.drew (w7.setCell ⟨w6.heap.size+1,0,none⟩ (.slice yA7 yN7 yC7))).heap.size = w7.heap.size:=by first|rfl|simp
  generalize World.drew (w7.setCell ⟨w6.heap.size+1,0,none⟩ (.slice yA7 yN7 yC7)) = Wd at hS9 hsW9 ⊢
  obtain ⟨S9,hS9z⟩:∃ x,x = Wd.heap.size:=⟨_,rfl⟩
  have hC9:=Rc.start (bs:=[⟨w6.heap.size+1,#[.slice yA7 yN7 yC7],27⟩,⟨w5.heap.size+1,#[.slice yP5 yG5 yR5],27⟩,⟨x4_g13,#[.slice x4_A11 x4_N11 x4_C11],27⟩,⟨x4_g12,#[.slice x4_A5 x4_N5 x4_C5],27⟩,⟨w3.heap.size,#[.slice yA3 yN3 yC3],27⟩,⟨w2.heap.size+1,#[.slice yP2 yG2 yR2],27⟩,⟨w2.heap.size,#[.slice yA2 yN2 yC2],27⟩,⟨w1.heap.size+1,#[.slice yP1 yG1 yR1],27⟩,⟨w1.heap.size,#[.slice yA1 yN1 yC1],27⟩,⟨w.heap.size+1,#[.slice none 0 0,.slice none 0 0,.slice none 0 0,.slice none 0 0,.slice none 0 0,.bool false],111⟩,⟨w.heap.size,#[.bool s,.slice a1 n1 c1,.slice a2 n2 c2,.bool s,.slice a3 n3 c3,.slice a4 n4 c4],52⟩]) hS9 (by simp)
  rw [← hS9z] at hC9
  refine wpAny_inv (fun l act w'=>∃ σ,SplS8I w p s a1 a2 a3 a4 n1 n2 n3 n4 c1 c2 c3 c4 m1 d1 m2 d2 yA1 yN1 yC1 yM1 yP1 yG1 yR1 yL1 w1 yA2 yN2 yC2 yM2 yP2 yG2 yR2 yL2 w2 yA3 yN3 yC3 yM3 w3 x4_A5 x4_N5 x4_C5 x4_M5 x4_A11 x4_N11 x4_C11 x4_M11 x4_g12 x4_g13 yA5 yN5 yC5 yP5 yG5 yR5 yL5 w5 yA6 yN6 yC6 yP6 yG6 yR6 w6 yA7 yN7 yC7 yM7 yE7 S9 l act w' σ) ?_ ?_ _ _ _ _ ?_ ?_
  ·intro l act w' i9 hI9 hi9 hl9
   have hin9:i9 < 9:=by
    by_cases h:i9 < 9
    ·exact h
    ·obtain ⟨⟨⟩,rfl,_⟩:=hI9
     rw [Array.getElem?_eq_none (by simp; omega)] at hl9; cases hl9
   have hcase:i9 = 0∨i9 = 1∨i9 = 2∨i9 = 3∨i9 = 4∨i9 = 5∨i9 = 6∨i9 = 7∨i9 = 8:=by omega
   clear hin9
   obtain ⟨⟨b0,b1,b2,b3,b4,b5,b6,b7,b8,v0,v1,v2,v3,v4,v5,v6,v7,A4,N4,C4,M4,E4,A6,N6,C6,M6,E6,bs9,os9⟩,rfl,rfl,hR⟩:=hI9
   rcases hcase with rfl|rfl|rfl|rfl|rfl|rfl|rfl|rfl|rfl
   ·obtain rfl:b0 = false:=by simpa using hl9
    have hc:=hR.hc
    refine wpOp_step rfl fun K hK=>?_
    go_simp
    exact hK _ _ ⟨⟨_,_,_,_,_,_,_,_,_,_,_,_,_,_,_,_,_,A4,N4,C4,M4,E4,A6,N6,C6,M6,E6,_,_⟩,rfl,rfl,{ hR with hc:=hc,f0:=(fun _=>rfl) }⟩
   ·obtain rfl:b1 = false:=by simpa using hl9
    have hc:=hR.hc
    refine wpOp_step rfl fun K hK=>?_
    go_simp
    exact hK _ _ ⟨⟨_,_,_,_,_,_,_,_,_,_,_,_,_,_,_,_,_,A4,N4,C4,M4,E4,A6,N6,C6,M6,E6,_,_⟩,rfl,rfl,{ hR with hc:=hc,f1:=(fun _=>rfl) }⟩
   ·obtain rfl:b2 = false:=by simpa using hl9
    have hc:=hR.hc
    have c9_0:=hc.st.cellAt (hc.old ⟨w5.heap.size+1,#[.slice yP5 yG5 yR5],27⟩ (by simp)).1 0 (.slice yP5 yG5 yR5) rfl
    simp only [] at c9_0
    refine wpOp_step rfl fun K hK=>?_
    go_simp
    exact hK _ _ ⟨⟨_,_,_,_,_,_,_,_,_,_,_,_,_,_,_,_,_,A4,N4,C4,M4,E4,A6,N6,C6,M6,E6,_,_⟩,rfl,rfl,{ hR with hc:=hc,f2:=(fun _=>rfl) }⟩
   ·obtain rfl:b3 = false:=by simpa using hl9
    have hc:=hR.hc
    have c9_0:=hc.st.cellAt (hc.old ⟨w6.heap.size+1,#[.slice yA7 yN7 yC7],27⟩ (by simp)).1 0 (.slice yA7 yN7 yC7) rfl
    simp only [] at c9_0
    refine wpOp_step rfl fun K hK=>?_
    go_simp
    exact hK _ _ ⟨⟨_,_,_,_,_,_,_,_,_,_,_,_,_,_,_,_,_,A4,N4,C4,M4,E4,A6,N6,C6,M6,E6,_,_⟩,rfl,rfl,{ hR with hc:=hc,f3:=(fun _=>rfl) }⟩
   ·obtain rfl:b4 = false:=by simpa using hl9
    obtain ⟨o9,ho9,hd9⟩:=(mem_ready.1 hi9).2
    cases ho9
    have e1:b1 = true:=hd9 ⟨1,.data⟩ (by simp) rfl
    have e2:b2 = true:=hd9 ⟨2,.data⟩ (by simp) rfl
    have e3:b3 = true:=hd9 ⟨3,.data⟩ (by simp) rfl
    subst e1 e2 e3
    have h9:=hR.f1 rfl
    subst h9
    have h9:=hR.f2 rfl
    subst h9
    have h9:=hR.f3 rfl
    subst h9
    have hc:=hR.hc
    obtain rfl:b6 = false:=by cases h:b6; rfl; exact Bool.noConfusion (hR.g6_4 h)
    simp only [cond_false] at hc
    have HR:=hide hR
    clear hR
    refine wpOp_step rfl fun K hK=>?_
    go_simp
    go_wp2_with fail
    refine (W_dist hc.st yR5 yC7 (hc.st.ow (yP5,yG5,yR5,yL5) (hc.oso _ (by simp))).num (hc.st.ow (yA7,yN7,yC7,yM7) (hc.oso _ (by simp))).num).mono ?_
    rintro en w9 ⟨a9,n9,c9,m9,e9,rfl,hs9,hz,hz9⟩
    have hR:=unhide HR
    exact hK _ _ ⟨⟨_,_,_,_,_,_,_,_,_,_,_,_,_,_,_,_,_,_,_,_,_,_,A6,N6,C6,M6,E6,_,_⟩,rfl,rfl,{ hR with hc:=(hc.call hs9 hz9 (fun y hy=>List.mem_cons_of_mem _ hy)),f4:=(fun _=>⟨rfl,List.mem_cons_self ..,hz⟩),f6:=(fun h=>Bool.noConfusion (hR.g6_4 h)),f8:=(fun h=>Bool.noConfusion (hR.g8_4 h)),g6_4:=(fun _=>rfl),g8_4:=(fun _=>rfl) }⟩
   ·obtain rfl:b5 = false:=by simpa using hl9
    have hc:=hR.hc
    have c9_0:=hc.st.cellAt (hc.old ⟨w3.heap.size,#[.slice yA3 yN3 yC3],27⟩ (by simp)).1 0 (.slice yA3 yN3 yC3) rfl
    simp only [] at c9_0
    refine wpOp_step rfl fun K hK=>?_
    go_simp
    exact hK _ _ ⟨⟨_,_,_,_,_,_,_,_,_,_,_,_,_,_,_,_,_,A4,N4,C4,M4,E4,A6,N6,C6,M6,E6,_,_⟩,rfl,rfl,{ hR with hc:=hc,f5:=(fun _=>rfl) }⟩
   ·obtain rfl:b6 = false:=by simpa using hl9
    obtain ⟨o9,ho9,hd9⟩:=(mem_ready.1 hi9).2
    cases ho9
    have e0:b0 = true:=hd9 ⟨0,.data⟩ (by simp) rfl
    have e4:b4 = true:=hd9 ⟨4,.data⟩ (by simp) rfl
    have e5:b5 = true:=hd9 ⟨5,.data⟩ (by simp) rfl
    subst e0 e4 e5
    have h9:=hR.f0 rfl
    subst h9
    have q4:=hR.f4 rfl
    obtain ⟨h9,q4m,q4z⟩:=q4
    subst h9
    have h9:=hR.f5 rfl
    subst h9
    have hc:=hR.hc
    simp only [cond_true,cond_false] at hc
    have HR:=hide hR
    clear hR
    refine wpOp_step rfl fun K hK=>?_
    go_simp
    go_wp2_with fail
    refine (W_gcd hc.st C4 yC3 (hc.st.ow _ q4m).num (hc.st.ow (yA3,yN3,yC3,yM3) (hc.oso _ (by simp))).num).mono ?_
    rintro en w9 ⟨a9,n9,c9,m9,e9,rfl,hs9,hz,hz9⟩
    have hR:=unhide HR
    exact hK _ _ ⟨⟨_,_,_,_,_,_,_,_,_,_,_,_,_,_,_,_,_,A4,N4,C4,M4,E4,_,_,_,_,_,_,_⟩,rfl,rfl,{ hR with hc:=(hc.call hs9 hz9 (fun y hy=>List.mem_cons_of_mem _ hy)),f4:=(fun h=>⟨(hR.f4 h).1,List.mem_cons_of_mem _ (hR.f4 h).2.1,(hR.f4 h).2.2⟩),f6:=(fun _=>⟨rfl,List.mem_cons_self ..,hz⟩),f8:=(fun h=>Bool.noConfusion (hR.g8_6 h)),g6_4:=(fun _=>rfl),g8_6:=(fun _=>rfl) }⟩
   ·obtain rfl:b7 = false:=by simpa using hl9
    have hc:=hR.hc
    refine wpOp_step rfl fun K hK=>?_
    go_simp
    exact hK _ _ ⟨⟨_,_,_,_,_,_,_,_,_,_,_,_,_,_,_,_,_,A4,N4,C4,M4,E4,A6,N6,C6,M6,E6,_,_⟩,rfl,rfl,{ hR with hc:=(hc.alloc #[.slice none 0 0] 27),f7:=(fun _=>AlV.self rfl hc.sz),f8:=(fun h=>Bool.noConfusion (hR.g8_7 h)),g8_7:=(fun _=>rfl) }⟩
   ·obtain rfl:b8 = false:=by simpa using hl9
    obtain ⟨o9,ho9,hd9⟩:=(mem_ready.1 hi9).2
    cases ho9
    have e6:b6 = true:=hd9 ⟨6,.data⟩ (by simp) rfl
    have e7:b7 = true:=hd9 ⟨7,.data⟩ (by simp) rfl
    subst e6 e7
    have q6:=hR.f6 rfl
    obtain ⟨h9,q6m,q6z⟩:=q6
    subst h9
    have hc:=hR.hc
    obtain ⟨g9,s9,h9,hg9,hm9⟩:=hR.f7 rfl
    subst h9
    have fz9:=hc.st.frozen hm9 0
    have cz9:=hc.st.cellAt hm9 0 s9 rfl
    simp only [] at fz9 cz9
    have hn9:∀ x,x∈([⟨w6.heap.size+1,#[.slice yA7 yN7 yC7],27⟩,⟨w5.heap.size+1,#[.slice yP5 yG5 yR5],27⟩,⟨x4_g13,#[.slice x4_A11 x4_N11 x4_C11],27⟩,⟨x4_g12,#[.slice x4_A5 x4_N5 x4_C5],27⟩,⟨w3.heap.size,#[.slice yA3 yN3 yC3],27⟩,⟨w2.heap.size+1,#[.slice yP2 yG2 yR2],27⟩,⟨w2.heap.size,#[.slice yA2 yN2 yC2],27⟩,⟨w1.heap.size+1,#[.slice yP1 yG1 yR1],27⟩,⟨w1.heap.size,#[.slice yA1 yN1 yC1],27⟩,⟨w.heap.size+1,#[.slice none 0 0,.slice none 0 0,.slice none 0 0,.slice none 0 0,.slice none 0 0,.bool false],111⟩,⟨w.heap.size,#[.bool s,.slice a1 n1 c1,.slice a2 n2 c2,.bool s,.slice a3 n3 c3,.slice a4 n4 c4],52⟩]:List En)→x.b≠g9:=fun x hx=>by have:=(hc.old x hx).2; omega
    refine wpOp_step rfl fun K hK=>?_
    go_simp
    exact hK _ _ ⟨⟨_,_,_,_,_,_,_,_,_,_,_,_,_,_,_,_,_,A4,N4,C4,M4,E4,A6,N6,C6,M6,E6,_,_⟩,rfl,rfl,{ hR with hc:=(hc.store hm9 (by have:=hc.w0s; omega) hn9 0 (.slice A6 N6 C6) (by simp)),f7:=(fun _=>AlV.self rfl hg9),f8:=(fun _=>⟨g9,_,rfl,hg9,rfl,List.mem_cons_self ..⟩),g8_7:=(fun _=>rfl),g8_6:=(fun _=>rfl),g8_4:=(fun _=>hR.g6_4 rfl) }⟩
  ·rintro l act Wq8 ⟨⟨b0,b1,b2,b3,b4,b5,b6,b7,b8,v0,v1,v2,v3,v4,v5,v6,v7,x8_A4,x8_N4,x8_C4,x8_M4,x8_E4,x8_A6,x8_N6,x8_C6,x8_M6,x8_E6,bs9,os9⟩,rfl,rfl,hR⟩ hr9
   obtain ⟨hc,f0,f1,f2,f3,f4,f5,f6,f7,f8,g6_4,g8_7,g8_6,g8_4⟩:=hR
   have eall:=all_done hr9 (by kernel_rfl) rfl
   obtain rfl:b0 = true:=eall 0 (by decide)
   obtain rfl:b1 = true:=eall 1 (by decide)
   obtain rfl:b2 = true:=eall 2 (by decide)
   obtain rfl:b3 = true:=eall 3 (by decide)
   obtain rfl:b4 = true:=eall 4 (by decide)
   obtain rfl:b5 = true:=eall 5 (by decide)
   obtain rfl:b6 = true:=eall 6 (by decide)
   obtain rfl:b7 = true:=eall 7 (by decide)
   obtain rfl:b8 = true:=eall 8 (by decide)
   clear hr9 eall
   have h9:=f0 rfl
   subst h9
   have h9:=f1 rfl
   subst h9
   have h9:=f2 rfl
   subst h9
   have h9:=f3 rfl
   subst h9
   obtain ⟨h9,q4m,qx8_4⟩:=f4 rfl
   subst h9
   have h9:=f5 rfl
   subst h9
   obtain ⟨h9,q6m,qx8_6⟩:=f6 rfl
   subst h9
   obtain ⟨x8_g7,s9,h9,hg7,hs9,hm7⟩:=f8 rfl
   subst h9
   obtain rfl:s9 = .slice x8_A6 x8_N6 x8_C6:=by simpa using hs9.symm
   clear hs9
   simp only [cond_true] at hc
   have hbs9:∀ x,x∈([⟨x8_g7,#[.slice x8_A6 x8_N6 x8_C6],27⟩,⟨w6.heap.size+1,#[.slice yA7 yN7 yC7],27⟩,⟨w5.heap.size+1,#[.slice yP5 yG5 yR5],27⟩,⟨x4_g13,#[.slice x4_A11 x4_N11 x4_C11],27⟩,⟨x4_g12,#[.slice x4_A5 x4_N5 x4_C5],27⟩,⟨w3.heap.size,#[.slice yA3 yN3 yC3],27⟩,⟨w2.heap.size+1,#[.slice yP2 yG2 yR2],27⟩,⟨w2.heap.size,#[.slice yA2 yN2 yC2],27⟩,⟨w1.heap.size+1,#[.slice yP1 yG1 yR1],27⟩,⟨w1.heap.size,#[.slice yA1 yN1 yC1],27⟩,⟨w.heap.size+1,#[.slice none 0 0,.slice none 0 0,.slice none 0 0,.slice none 0 0,.slice none 0 0,.bool false],111⟩,⟨w.heap.size,#[.bool s,.slice a1 n1 c1,.slice a2 n2 c2,.bool s,.slice a3 n3 c3,.slice a4 n4 c4],52⟩]:List En)→x∈bs9:=by
    intro x hx
    rcases List.mem_cons.1 hx with rfl|hx
    ·exact hm7
    rcases List.mem_cons.1 hx with rfl|hx
    ·exact (hc.old _ (by simp)).1
    rcases List.mem_cons.1 hx with rfl|hx
    ·exact (hc.old _ (by simp)).1
    rcases List.mem_cons.1 hx with rfl|hx
    ·exact (hc.old _ (by simp)).1
    rcases List.mem_cons.1 hx with rfl|hx
    ·exact (hc.old _ (by simp)).1
    rcases List.mem_cons.1 hx with rfl|hx
    ·exact (hc.old _ (by simp)).1
    rcases List.mem_cons.1 hx with rfl|hx
    ·exact (hc.old _ (by simp)).1
    rcases List.mem_cons.1 hx with rfl|hx
    ·exact (hc.old _ (by simp)).1
    rcases List.mem_cons.1 hx with rfl|hx
    ·exact (hc.old _ (by simp)).1
    rcases List.mem_cons.1 hx with rfl|hx
    ·exact (hc.old _ (by simp)).1
    rcases List.mem_cons.1 hx with rfl|hx
    ·exact (hc.old _ (by simp)).1
    rcases List.mem_cons.1 hx with rfl|hx
    ·exact (hc.old _ (by simp)).1
    exact absurd hx List.not_mem_nil
   have hos9:∀ x,x∈([(x8_A4,x8_N4,x8_C4,x8_M4),(x8_A6,x8_N6,x8_C6,x8_M6),(yA7,yN7,yC7,yM7),(yP5,yG5,yR5,yL5),(x4_A5,x4_N5,x4_C5,x4_M5),(x4_A11,x4_N11,x4_C11,x4_M11),(yA3,yN3,yC3,yM3),(yP2,yG2,yR2,yL2),(yA2,yN2,yC2,yM2),(yP1,yG1,yR1,yL1),(yA1,yN1,yC1,yM1)]:Os)→x∈os9:=by
    intro x hx
    rcases List.mem_cons.1 hx with rfl|hx
    ·exact q4m
    rcases List.mem_cons.1 hx with rfl|hx
    ·exact q6m
    rcases List.mem_cons.1 hx with rfl|hx
    ·exact hc.oso _ (by simp)
    rcases List.mem_cons.1 hx with rfl|hx
    ·exact hc.oso _ (by simp)
    rcases List.mem_cons.1 hx with rfl|hx
    ·exact hc.oso _ (by simp)
    rcases List.mem_cons.1 hx with rfl|hx
    ·exact hc.oso _ (by simp)
    rcases List.mem_cons.1 hx with rfl|hx
    ·exact hc.oso _ (by simp)
    rcases List.mem_cons.1 hx with rfl|hx
    ·exact hc.oso _ (by simp)
    rcases List.mem_cons.1 hx with rfl|hx
    ·exact hc.oso _ (by simp)
    rcases List.mem_cons.1 hx with rfl|hx
    ·exact hc.oso _ (by simp)
    rcases List.mem_cons.1 hx with rfl|hx
    ·exact hc.oso _ (by simp)
    exact absurd hx List.not_mem_nil
   have hS:=hc.st.sub hbs9 (fun x hx=>hx) hos9
   have hsz9:=hc.sz
   rw [hS9z,hsW9] at hsz9
   have hlx8_g7:=hg7
   rw [hS9z,hsW9] at hlx8_g7
   have hux8_g7:=block_lt (hc.st.bx _ hm7).1
   simp only [] at hux8_g7
   clear hbs9 hos9 hc f0 f1 f2 f3 f4 f5 f6 f7 f8 g6_4 g8_7 g8_6 g8_4
   clear q4m q6m hm7 hg7
   have hz8:=hsz9
   clear hsz9 hS9z hS9 hC9 hsW9
   have Qx8_4:=hide qx8_4
   clear qx8_4
   have Qx8_6:=hide qx8_6
   clear qx8_6
   obtain ⟨⟨k0_0,-⟩,z0⟩:=hS.cz ⟨x8_g7,#[.slice x8_A6 x8_N6 x8_C6],27⟩ (by simp)
   have z0_0:=z0 0
   clear z0
   obtain ⟨⟨k1_0,-⟩,z1⟩:=hS.cz ⟨w6.heap.size+1,#[.slice yA7 yN7 yC7],27⟩ (by simp)
   have z1_0:=z1 0
   clear z1
   obtain ⟨⟨k2_0,-⟩,z2⟩:=hS.cz ⟨w5.heap.size+1,#[.slice yP5 yG5 yR5],27⟩ (by simp)
   have z2_0:=z2 0
   clear z2
   obtain ⟨⟨k3_0,-⟩,z3⟩:=hS.cz ⟨x4_g13,#[.slice x4_A11 x4_N11 x4_C11],27⟩ (by simp)
   have z3_0:=z3 0
   clear z3
   obtain ⟨⟨k4_0,-⟩,z4⟩:=hS.cz ⟨x4_g12,#[.slice x4_A5 x4_N5 x4_C5],27⟩ (by simp)
   have z4_0:=z4 0
   clear z4
   obtain ⟨⟨k5_0,-⟩,z5⟩:=hS.cz ⟨w3.heap.size,#[.slice yA3 yN3 yC3],27⟩ (by simp)
   have z5_0:=z5 0
   clear z5
   obtain ⟨⟨k6_0,-⟩,z6⟩:=hS.cz ⟨w2.heap.size+1,#[.slice yP2 yG2 yR2],27⟩ (by simp)
   have z6_0:=z6 0
   clear z6
   obtain ⟨⟨k7_0,-⟩,z7⟩:=hS.cz ⟨w2.heap.size,#[.slice yA2 yN2 yC2],27⟩ (by simp)
   have z7_0:=z7 0
   clear z7
   obtain ⟨⟨k8_0,-⟩,z8⟩:=hS.cz ⟨w1.heap.size+1,#[.slice yP1 yG1 yR1],27⟩ (by simp)
   have z8_0:=z8 0
   clear z8
   obtain ⟨⟨k9_0,-⟩,z9⟩:=hS.cz ⟨w1.heap.size,#[.slice yA1 yN1 yC1],27⟩ (by simp)
   have z9_0:=z9 0
   clear z9
   obtain ⟨⟨k10_0,k10_1,k10_2,k10_3,k10_4,k10_5,-⟩,z10⟩:=hS.cz ⟨w.heap.size+1,#[.slice none 0 0,.slice none 0 0,.slice none 0 0,.slice none 0 0,.slice none 0 0,.bool false],111⟩ (by simp)
   have z10_0:=z10 0
   have z10_1:=z10 1
   have z10_2:=z10 2
   have z10_3:=z10 3
   have z10_4:=z10 4
   have z10_5:=z10 5
   clear z10
   obtain ⟨⟨k11_0,k11_1,k11_2,k11_3,k11_4,k11_5,-⟩,z11⟩:=hS.cz ⟨w.heap.size,#[.bool s,.slice a1 n1 c1,.slice a2 n2 c2,.bool s,.slice a3 n3 c3,.slice a4 n4 c4],52⟩ (by simp)
   have z11_0:=z11 0
   have z11_1:=z11 1
   have z11_2:=z11 2
   have z11_3:=z11 3
   have z11_4:=z11 4
   have z11_5:=z11 5
   clear z11
   simp only [] at k0_0 z0_0 k1_0 z1_0 k2_0 z2_0 k3_0 z3_0 k4_0 z4_0 k5_0 z5_0 k6_0 z6_0 k7_0 z7_0 k8_0 z8_0 k9_0 z9_0 k10_0 z10_0 k10_1 z10_1 k10_2 z10_2 k10_3 z10_3 k10_4 z10_4 k10_5 z10_5 k11_0 z11_0 k11_1 z11_1 k11_2 z11_2 k11_3 z11_3 k11_4 z11_4 k11_5 z11_5
   go_wp2_with fail
   clear k0_0 z0_0 k1_0 z1_0 k2_0 z2_0 k3_0 z3_0 k4_0 z4_0 k5_0 z5_0 k6_0 z6_0 k7_0 z7_0 k8_0 z8_0 k9_0 z9_0 k10_0 z10_0 k10_1 z10_1 k10_2 z10_2 k10_3 z10_3 k10_4 z10_4 k10_5 z10_5 k11_0 z11_0 k11_1 z11_1 k11_2 z11_2 k11_3 z11_3 k11_4 z11_4 k11_5 z11_5
   replace hS:=hS.sub (bs':=[⟨x8_g7,#[.slice x8_A6 x8_N6 x8_C6],27⟩,⟨x4_g13,#[.slice x4_A11 x4_N11 x4_C11],27⟩,⟨x4_g12,#[.slice x4_A5 x4_N5 x4_C5],27⟩,⟨w2.heap.size+1,#[.slice yP2 yG2 yR2],27⟩,⟨w2.heap.size,#[.slice yA2 yN2 yC2],27⟩,⟨w1.heap.size+1,#[.slice yP1 yG1 yR1],27⟩,⟨w1.heap.size,#[.slice yA1 yN1 yC1],27⟩,⟨w.heap.size+1,#[.slice none 0 0,.slice none 0 0,.slice none 0 0,.slice none 0 0,.slice none 0 0,.bool false],111⟩,⟨w.heap.size,#[.bool s,.slice a1 n1 c1,.slice a2 n2 c2,.bool s,.slice a3 n3 c3,.slice a4 n4 c4],52⟩]) (ms':=[(a4,n4,d2),(a3,n3,m2),(a2,n2,d1),(a1,n1,m1)]) (os':=[(x8_A6,x8_N6,x8_C6,x8_M6),(x4_A5,x4_N5,x4_C5,x4_M5),(x4_A11,x4_N11,x4_C11,x4_M11),(yP2,yG2,yR2,yL2),(yA2,yN2,yC2,yM2),(yP1,yG1,yR1,yL1),(yA1,yN1,yC1,yM1)]) (by intro x hx; rcases List.mem_cons.1 hx with rfl|hx; (simp); rcases List.mem_cons.1 hx with rfl|hx; (simp); rcases List.mem_cons.1 hx with rfl|hx; (simp); rcases List.mem_cons.1 hx with rfl|hx; (simp); rcases List.mem_cons.1 hx with rfl|hx; (simp); rcases List.mem_cons.1 hx with rfl|hx; (simp); rcases List.mem_cons.1 hx with rfl|hx; (simp); rcases List.mem_cons.1 hx with rfl|hx; (simp); rcases List.mem_cons.1 hx with rfl|hx; (simp); exact absurd hx List.not_mem_nil) (by intro x hx; rcases List.mem_cons.1 hx with rfl|hx; (simp); rcases List.mem_cons.1 hx with rfl|hx; (simp); rcases List.mem_cons.1 hx with rfl|hx; (simp); rcases List.mem_cons.1 hx with rfl|hx; (simp); exact absurd hx List.not_mem_nil) (by intro x hx; rcases List.mem_cons.1 hx with rfl|hx; (simp); rcases List.mem_cons.1 hx with rfl|hx; (simp); rcases List.mem_cons.1 hx with rfl|hx; (simp); rcases List.mem_cons.1 hx with rfl|hx; (simp); rcases List.mem_cons.1 hx with rfl|hx; (simp); rcases List.mem_cons.1 hx with rfl|hx; (simp); rcases List.mem_cons.1 hx with rfl|hx; (simp); exact absurd hx List.not_mem_nil)
   refine wp_region_any (by kernel_rfl) ?_
   change wpAny _ _ _ _ _ _ _ (World.drew _)
   have hS9:=hS.drew
   have hsW9:(World.drew Wq8).heap.size = Wq8.heap.size:=by first|rfl|simp
   generalize World.drew Wq8 = Wd at hS9 hsW9 ⊢
   obtain ⟨S9,hS9z⟩:∃ x,x = Wd.heap.size:=⟨_,rfl⟩
   have hC9:=Rc.start (bs:=[⟨x8_g7,#[.slice x8_A6 x8_N6 x8_C6],27⟩,⟨x4_g13,#[.slice x4_A11 x4_N11 x4_C11],27⟩,⟨x4_g12,#[.slice x4_A5 x4_N5 x4_C5],27⟩,⟨w2.heap.size+1,#[.slice yP2 yG2 yR2],27⟩,⟨w2.heap.size,#[.slice yA2 yN2 yC2],27⟩,⟨w1.heap.size+1,#[.slice yP1 yG1 yR1],27⟩,⟨w1.heap.size,#[.slice yA1 yN1 yC1],27⟩,⟨w.heap.size+1,#[.slice none 0 0,.slice none 0 0,.slice none 0 0,.slice none 0 0,.slice none 0 0,.bool false],111⟩,⟨w.heap.size,#[.bool s,.slice a1 n1 c1,.slice a2 n2 c2,.bool s,.slice a3 n3 c3,.slice a4 n4 c4],52⟩]) hS9 (by simp)
   rw [← hS9z] at hC9
   refine wpAny_inv (fun l act w'=>∃ σ,SplS9I w p s a1 a2 a3 a4 n1 n2 n3 n4 c1 c2 c3 c4 m1 d1 m2 d2 yA1 yN1 yC1 yM1 yP1 yG1 yR1 yL1 w1 yA2 yN2 yC2 yM2 yP2 yG2 yR2 yL2 w2 yA3 yN3 yC3 w3 x4_A5 x4_N5 x4_C5 x4_M5 x4_A11 x4_N11 x4_C11 x4_M11 x4_g12 x4_g13 yA5 yN5 yC5 yP5 yG5 yR5 w5 yA6 yN6 yC6 yP6 yG6 yR6 w6 yA7 yN7 yC7 x8_A4 x8_N4 x8_C4 x8_A6 x8_N6 x8_C6 x8_M6 x8_E6 x8_g7 S9 l act w' σ) ?_ ?_ _ _ _ _ ?_ ?_
   ·intro l act w' i9 hI9 hi9 hl9
    have hin9:i9 < 11:=by
     by_cases h:i9 < 11
     ·exact h
     ·obtain ⟨⟨⟩,rfl,_⟩:=hI9
      rw [Array.getElem?_eq_none (by simp; omega)] at hl9; cases hl9
    have hcase:i9 = 0∨i9 = 1∨i9 = 2∨i9 = 3∨i9 = 4∨i9 = 5∨i9 = 6∨i9 = 7∨i9 = 8∨i9 = 9∨i9 = 10:=by omega
    clear hin9
    obtain ⟨⟨b0,b1,b2,b3,b4,b5,b6,b7,b8,b9,b10,v0,v1,v2,v3,v4,v5,v6,v7,v8,v9,A7,N7,C7,M7,E7,A8,N8,C8,M8,E8,bs9,os9⟩,rfl,rfl,hR⟩:=hI9
    rcases hcase with rfl|rfl|rfl|rfl|rfl|rfl|rfl|rfl|rfl|rfl|rfl
    ·obtain rfl:b0 = false:=by simpa using hl9
     have hc:=hR.hc
     refine wpOp_step rfl fun K hK=>?_
     go_simp
     exact hK _ _ ⟨⟨_,_,_,_,_,_,_,_,_,_,_,_,_,_,_,_,_,_,_,_,_,A7,N7,C7,M7,E7,A8,N8,C8,M8,E8,_,_⟩,rfl,rfl,{ hR with hc:=hc,f0:=(fun _=>rfl) }⟩
    ·obtain rfl:b1 = false:=by simpa using hl9
     have hc:=hR.hc
     have c9_0:=hc.st.cellAt (hc.old ⟨x4_g13,#[.slice x4_A11 x4_N11 x4_C11],27⟩ (by simp)).1 0 (.slice x4_A11 x4_N11 x4_C11) rfl
     simp only [] at c9_0
     refine wpOp_step rfl fun K hK=>?_
     go_simp
     exact hK _ _ ⟨⟨_,_,_,_,_,_,_,_,_,_,_,_,_,_,_,_,_,_,_,_,_,A7,N7,C7,M7,E7,A8,N8,C8,M8,E8,_,_⟩,rfl,rfl,{ hR with hc:=hc,f1:=(fun _=>rfl) }⟩
    ·obtain rfl:b2 = false:=by simpa using hl9
     have hc:=hR.hc
     refine wpOp_step rfl fun K hK=>?_
     go_simp
     exact hK _ _ ⟨⟨_,_,_,_,_,_,_,_,_,_,_,_,_,_,_,_,_,_,_,_,_,A7,N7,C7,M7,E7,A8,N8,C8,M8,E8,_,_⟩,rfl,rfl,{ hR with hc:=hc,f2:=(fun _=>rfl) }⟩
    ·obtain rfl:b3 = false:=by simpa using hl9
     have hc:=hR.hc
     refine wpOp_step rfl fun K hK=>?_
     go_simp
     exact hK _ _ ⟨⟨_,_,_,_,_,_,_,_,_,_,_,_,_,_,_,_,_,_,_,_,_,A7,N7,C7,M7,E7,A8,N8,C8,M8,E8,_,_⟩,rfl,rfl,{ hR with hc:=hc,f3:=(fun _=>rfl) }⟩
    ·obtain rfl:b4 = false:=by simpa using hl9
     obtain ⟨o9,ho9,hd9⟩:=(mem_ready.1 hi9).2
     cases ho9
     have e3:b3 = true:=hd9 ⟨3,.data⟩ (by simp) rfl
     subst e3
     have h9:=hR.f3 rfl
     subst h9
     have hc:=hR.hc
     refine wpOp_step rfl fun K hK=>?_
     go_simp
     exact hK _ _ ⟨⟨_,_,_,_,_,_,_,_,_,_,_,_,_,_,_,_,_,_,_,_,_,A7,N7,C7,M7,E7,A8,N8,C8,M8,E8,_,_⟩,rfl,rfl,{ hR with hc:=hc,f4:=(fun _=>rfl) }⟩
    ·obtain rfl:b5 = false:=by simpa using hl9
     obtain ⟨o9,ho9,hd9⟩:=(mem_ready.1 hi9).2
     cases ho9
     have e4:b4 = true:=hd9 ⟨4,.data⟩ (by simp) rfl
     subst e4
     have h9:=hR.f4 rfl
     subst h9
     have hc:=hR.hc
     have c9_0:=hc.st.cellAt (hc.old ⟨w.heap.size,#[.bool s,.slice a1 n1 c1,.slice a2 n2 c2,.bool s,.slice a3 n3 c3,.slice a4 n4 c4],52⟩ (by simp)).1 5 (.slice a4 n4 c4) rfl
     simp only [] at c9_0
     refine wpOp_step rfl fun K hK=>?_
     go_simp
     exact hK _ _ ⟨⟨_,_,_,_,_,_,_,_,_,_,_,_,_,_,_,_,_,_,_,_,_,A7,N7,C7,M7,E7,A8,N8,C8,M8,E8,_,_⟩,rfl,rfl,{ hR with hc:=hc,f5:=(fun _=>rfl) }⟩
    ·obtain rfl:b6 = false:=by simpa using hl9
     have hc:=hR.hc
     have c9_0:=hc.st.cellAt (hc.old ⟨x8_g7,#[.slice x8_A6 x8_N6 x8_C6],27⟩ (by simp)).1 0 (.slice x8_A6 x8_N6 x8_C6) rfl
     simp only [] at c9_0
     refine wpOp_step rfl fun K hK=>?_
     go_simp
     exact hK _ _ ⟨⟨_,_,_,_,_,_,_,_,_,_,_,_,_,_,_,_,_,_,_,_,_,A7,N7,C7,M7,E7,A8,N8,C8,M8,E8,_,_⟩,rfl,rfl,{ hR with hc:=hc,f6:=(fun _=>rfl) }⟩
    ·obtain rfl:b7 = false:=by simpa using hl9
     obtain ⟨o9,ho9,hd9⟩:=(mem_ready.1 hi9).2
     cases ho9
     have e2:b2 = true:=hd9 ⟨2,.data⟩ (by simp) rfl
     have e5:b5 = true:=hd9 ⟨5,.data⟩ (by simp) rfl
     have e6:b6 = true:=hd9 ⟨6,.data⟩ (by simp) rfl
     subst e2 e5 e6
     have h9:=hR.f2 rfl
     subst h9
     have h9:=hR.f5 rfl
     subst h9
     have h9:=hR.f6 rfl
     subst h9
     have hc:=hR.hc
     obtain rfl:b8 = false:=by cases h:b8; rfl; exact Bool.noConfusion (hR.g8_7 h)
     simp only [cond_false] at hc
     have HR:=hide hR
     clear hR
     refine wpOp_step rfl fun K hK=>?_
     go_simp
     go_wp2_with fail
     refine (W_over hc.st c4 x8_C6 (hc.st.nm (a4,n4,d2) (by simp)) (hc.st.ow (x8_A6,x8_N6,x8_C6,x8_M6) (hc.oso _ (by simp))).num).mono ?_
     rintro en w9 ⟨a9,n9,c9,m9,e9,rfl,hs9,hz,hz9⟩
     have hR:=unhide HR
     exact hK _ _ ⟨⟨_,_,_,_,_,_,_,_,_,_,_,_,_,_,_,_,_,_,_,_,_,_,_,_,_,_,A8,N8,C8,M8,E8,_,_⟩,rfl,rfl,{ hR with hc:=(hc.call hs9 hz9 (fun y hy=>List.mem_cons_of_mem _ hy)),f7:=(fun _=>⟨rfl,List.mem_cons_self ..,hz⟩),f8:=(fun h=>Bool.noConfusion (hR.g8_7 h)),f10:=(fun h=>Bool.noConfusion (hR.g10_7 h)),g8_7:=(fun _=>rfl),g10_7:=(fun _=>rfl) }⟩
    ·obtain rfl:b8 = false:=by simpa using hl9
     obtain ⟨o9,ho9,hd9⟩:=(mem_ready.1 hi9).2
     cases ho9
     have e0:b0 = true:=hd9 ⟨0,.data⟩ (by simp) rfl
     have e1:b1 = true:=hd9 ⟨1,.data⟩ (by simp) rfl
     have e7:b7 = true:=hd9 ⟨7,.data⟩ (by simp) rfl
     subst e0 e1 e7
     have h9:=hR.f0 rfl
     subst h9
     have h9:=hR.f1 rfl
     subst h9
     have q7:=hR.f7 rfl
     obtain ⟨h9,q7m,q7z⟩:=q7
     subst h9
     have hc:=hR.hc
     simp only [cond_true,cond_false] at hc
     have HR:=hide hR
     clear hR
     refine wpOp_step rfl fun K hK=>?_
     go_simp
     go_wp2_with fail
     refine (W_mul hc.st x4_C11 C7 (hc.st.ow (x4_A11,x4_N11,x4_C11,x4_M11) (hc.oso _ (by simp))).num (hc.st.ow _ q7m).num).mono ?_
     rintro en w9 ⟨a9,n9,c9,m9,e9,rfl,hs9,hz,hz9⟩
     have hR:=unhide HR
     exact hK _ _ ⟨⟨_,_,_,_,_,_,_,_,_,_,_,_,_,_,_,_,_,_,_,_,_,A7,N7,C7,M7,E7,_,_,_,_,_,_,_⟩,rfl,rfl,{ hR with hc:=(hc.call hs9 hz9 (fun y hy=>List.mem_cons_of_mem _ hy)),f7:=(fun h=>⟨(hR.f7 h).1,List.mem_cons_of_mem _ (hR.f7 h).2.1,(hR.f7 h).2.2⟩),f8:=(fun _=>⟨rfl,List.mem_cons_self ..,hz⟩),f10:=(fun h=>Bool.noConfusion (hR.g10_8 h)),g8_7:=(fun _=>rfl),g10_8:=(fun _=>rfl) }⟩
    ·obtain rfl:b9 = false:=by simpa using hl9
     have hc:=hR.hc
     refine wpOp_step rfl fun K hK=>?_
     go_simp
     exact hK _ _ ⟨⟨_,_,_,_,_,_,_,_,_,_,_,_,_,_,_,_,_,_,_,_,_,A7,N7,C7,M7,E7,A8,N8,C8,M8,E8,_,_⟩,rfl,rfl,{ hR with hc:=(hc.alloc #[.slice none 0 0] 27),f9:=(fun _=>AlV.self rfl hc.sz),f10:=(fun h=>Bool.noConfusion (hR.g10_9 h)),g10_9:=(fun _=>rfl) }⟩
    ·obtain rfl:b10 = false:=by simpa using hl9
     obtain ⟨o9,ho9,hd9⟩:=(mem_ready.1 hi9).2
     cases ho9
     have e8:b8 = true:=hd9 ⟨8,.data⟩ (by simp) rfl
     have e9:b9 = true:=hd9 ⟨9,.data⟩ (by simp) rfl
     subst e8 e9
     have q8:=hR.f8 rfl
     obtain ⟨h9,q8m,q8z⟩:=q8
     subst h9
     have hc:=hR.hc
     obtain ⟨g9,s9,h9,hg9,hm9⟩:=hR.f9 rfl
     subst h9
     have fz9:=hc.st.frozen hm9 0
     have cz9:=hc.st.cellAt hm9 0 s9 rfl
     simp only [] at fz9 cz9
     have hn9:∀ x,x∈([⟨x8_g7,#[.slice x8_A6 x8_N6 x8_C6],27⟩,⟨x4_g13,#[.slice x4_A11 x4_N11 x4_C11],27⟩,⟨x4_g12,#[.slice x4_A5 x4_N5 x4_C5],27⟩,⟨w2.heap.size+1,#[.slice yP2 yG2 yR2],27⟩,⟨w2.heap.size,#[.slice yA2 yN2 yC2],27⟩,⟨w1.heap.size+1,#[.slice yP1 yG1 yR1],27⟩,⟨w1.heap.size,#[.slice yA1 yN1 yC1],27⟩,⟨w.heap.size+1,#[.slice none 0 0,.slice none 0 0,.slice none 0 0,.slice none 0 0,.slice none 0 0,.bool false],111⟩,⟨w.heap.size,#[.bool s,.slice a1 n1 c1,.slice a2 n2 c2,.bool s,.slice a3 n3 c3,.slice a4 n4 c4],52⟩]:List En)→x.b≠g9:=fun x hx=>by have:=(hc.old x hx).2; omega
     refine wpOp_step rfl fun K hK=>?_
     go_simp
     exact hK _ _ ⟨⟨_,_,_,_,_,_,_,_,_,_,_,_,_,_,_,_,_,_,_,_,_,A7,N7,C7,M7,E7,A8,N8,C8,M8,E8,_,_⟩,rfl,rfl,{ hR with hc:=(hc.store hm9 (by have:=hc.w0s; omega) hn9 0 (.slice A8 N8 C8) (by simp)),f9:=(fun _=>AlV.self rfl hg9),f10:=(fun _=>⟨g9,_,rfl,hg9,rfl,List.mem_cons_self ..⟩),g10_9:=(fun _=>rfl),g10_8:=(fun _=>rfl),g10_7:=(fun _=>hR.g8_7 rfl) }⟩
   ·rintro l act Wq9 ⟨⟨b0,b1,b2,b3,b4,b5,b6,b7,b8,b9,b10,v0,v1,v2,v3,v4,v5,v6,v7,v8,v9,x9_A7,x9_N7,x9_C7,x9_M7,x9_E7,x9_A8,x9_N8,x9_C8,x9_M8,x9_E8,bs9,os9⟩,rfl,rfl,hR⟩ hr9
    obtain ⟨hc,f0,f1,f2,f3,f4,f5,f6,f7,f8,f9,f10,g8_7,g10_9,g10_8,g10_7⟩:=hR
    have eall:=all_done hr9 (by kernel_rfl) rfl
    obtain rfl:b0 = true:=eall 0 (by decide)
    obtain rfl:b1 = true:=eall 1 (by decide)
    obtain rfl:b2 = true:=eall 2 (by decide)
    obtain rfl:b3 = true:=eall 3 (by decide)
    obtain rfl:b4 = true:=eall 4 (by decide)
    obtain rfl:b5 = true:=eall 5 (by decide)
    obtain rfl:b6 = true:=eall 6 (by decide)
    obtain rfl:b7 = true:=eall 7 (by decide)
    obtain rfl:b8 = true:=eall 8 (by decide)
    obtain rfl:b9 = true:=eall 9 (by decide)
    obtain rfl:b10 = true:=eall 10 (by decide)
    clear hr9 eall
    have h9:=f0 rfl
    subst h9
    have h9:=f1 rfl
    subst h9
    have h9:=f2 rfl
    subst h9
    have h9:=f3 rfl
    subst h9
    have h9:=f4 rfl
    subst h9
    have h9:=f5 rfl
    subst h9
    have h9:=f6 rfl
    subst h9
    obtain ⟨h9,q7m,qx9_7⟩:=f7 rfl
    subst h9
    obtain ⟨h9,q8m,qx9_8⟩:=f8 rfl
    subst h9
    obtain ⟨x9_g9,s9,h9,hg9,hs9,hm9⟩:=f10 rfl
    subst h9
    obtain rfl:s9 = .slice x9_A8 x9_N8 x9_C8:=by simpa using hs9.symm
    clear hs9
    simp only [cond_true] at hc
    have hbs9:∀ x,x∈([⟨x9_g9,#[.slice x9_A8 x9_N8 x9_C8],27⟩,⟨x8_g7,#[.slice x8_A6 x8_N6 x8_C6],27⟩,⟨x4_g13,#[.slice x4_A11 x4_N11 x4_C11],27⟩,⟨x4_g12,#[.slice x4_A5 x4_N5 x4_C5],27⟩,⟨w2.heap.size+1,#[.slice yP2 yG2 yR2],27⟩,⟨w2.heap.size,#[.slice yA2 yN2 yC2],27⟩,⟨w1.heap.size+1,#[.slice yP1 yG1 yR1],27⟩,⟨w1.heap.size,#[.slice yA1 yN1 yC1],27⟩,⟨w.heap.size+1,#[.slice none 0 0,.slice none 0 0,.slice none 0 0,.slice none 0 0,.slice none 0 0,.bool false],111⟩,⟨w.heap.size,#[.bool s,.slice a1 n1 c1,.slice a2 n2 c2,.bool s,.slice a3 n3 c3,.slice a4 n4 c4],52⟩]:List En)→x∈bs9:=by
     intro x hx
     rcases List.mem_cons.1 hx with rfl|hx
     ·exact hm9
     rcases List.mem_cons.1 hx with rfl|hx
     ·exact (hc.old _ (by simp)).1
     rcases List.mem_cons.1 hx with rfl|hx
     ·exact (hc.old _ (by simp)).1
     rcases List.mem_cons.1 hx with rfl|hx
     ·exact (hc.old _ (by simp)).1
     rcases List.mem_cons.1 hx with rfl|hx
     ·exact (hc.old _ (by simp)).1
     rcases List.mem_cons.1 hx with rfl|hx
     ·exact (hc.old _ (by simp)).1
     rcases List.mem_cons.1 hx with rfl|hx
     ·exact (hc.old _ (by simp)).1
     rcases List.mem_cons.1 hx with rfl|hx
     ·exact (hc.old _ (by simp)).1
     rcases List.mem_cons.1 hx with rfl|hx
     ·exact (hc.old _ (by simp)).1
     rcases List.mem_cons.1 hx with rfl|hx
     ·exact (hc.old _ (by simp)).1
     exact absurd hx List.not_mem_nil
    have hos9:∀ x,x∈([(x9_A7,x9_N7,x9_C7,x9_M7),(x9_A8,x9_N8,x9_C8,x9_M8),(x8_A6,x8_N6,x8_C6,x8_M6),(x4_A5,x4_N5,x4_C5,x4_M5),(x4_A11,x4_N11,x4_C11,x4_M11),(yP2,yG2,yR2,yL2),(yA2,yN2,yC2,yM2),(yP1,yG1,yR1,yL1),(yA1,yN1,yC1,yM1)]:Os)→x∈os9:=by
     intro x hx
     rcases List.mem_cons.1 hx with rfl|hx
     ·exact q7m
     rcases List.mem_cons.1 hx with rfl|hx
     ·exact q8m
     rcases List.mem_cons.1 hx with rfl|hx
     ·exact hc.oso _ (by simp)
     rcases List.mem_cons.1 hx with rfl|hx
     ·exact hc.oso _ (by simp)
     rcases List.mem_cons.1 hx with rfl|hx
     ·exact hc.oso _ (by simp)
     rcases List.mem_cons.1 hx with rfl|hx
     ·exact hc.oso _ (by simp)
     rcases List.mem_cons.1 hx with rfl|hx
     ·exact hc.oso _ (by simp)
     rcases List.mem_cons.1 hx with rfl|hx
     ·exact hc.oso _ (by simp)
     rcases List.mem_cons.1 hx with rfl|hx
     ·exact hc.oso _ (by simp)
     exact absurd hx List.not_mem_nil
    have hS:=hc.st.sub hbs9 (fun x hx=>hx) hos9
    have hsz9:=hc.sz
    rw [hS9z,hsW9] at hsz9
    have hlx9_g9:=hg9
    rw [hS9z,hsW9] at hlx9_g9
    have hux9_g9:=block_lt (hc.st.bx _ hm9).1
    simp only [] at hux9_g9
    clear hbs9 hos9 hc f0 f1 f2 f3 f4 f5 f6 f7 f8 f9 f10 g8_7 g10_9 g10_8 g10_7
    clear q7m q8m hm9 hg9
    have hz9:=hsz9
    clear hsz9 hS9z hS9 hC9 hsW9
    have Qx9_7:=hide qx9_7
    clear qx9_7
    have Qx9_8:=hide qx9_8
    clear qx9_8
    obtain ⟨⟨k0_0,-⟩,z0⟩:=hS.cz ⟨x9_g9,#[.slice x9_A8 x9_N8 x9_C8],27⟩ (by simp)
    have z0_0:=z0 0
    clear z0
    obtain ⟨⟨k1_0,-⟩,z1⟩:=hS.cz ⟨x8_g7,#[.slice x8_A6 x8_N6 x8_C6],27⟩ (by simp)
    have z1_0:=z1 0
    clear z1
    obtain ⟨⟨k2_0,-⟩,z2⟩:=hS.cz ⟨x4_g13,#[.slice x4_A11 x4_N11 x4_C11],27⟩ (by simp)
    have z2_0:=z2 0
    clear z2
    obtain ⟨⟨k3_0,-⟩,z3⟩:=hS.cz ⟨x4_g12,#[.slice x4_A5 x4_N5 x4_C5],27⟩ (by simp)
    have z3_0:=z3 0
    clear z3
    obtain ⟨⟨k4_0,-⟩,z4⟩:=hS.cz ⟨w2.heap.size+1,#[.slice yP2 yG2 yR2],27⟩ (by simp)
    have z4_0:=z4 0
    clear z4
    obtain ⟨⟨k5_0,-⟩,z5⟩:=hS.cz ⟨w2.heap.size,#[.slice yA2 yN2 yC2],27⟩ (by simp)
    have z5_0:=z5 0
    clear z5
    obtain ⟨⟨k6_0,-⟩,z6⟩:=hS.cz ⟨w1.heap.size+1,#[.slice yP1 yG1 yR1],27⟩ (by simp)
    have z6_0:=z6 0
    clear z6
    obtain ⟨⟨k7_0,-⟩,z7⟩:=hS.cz ⟨w1.heap.size,#[.slice yA1 yN1 yC1],27⟩ (by simp)
    have z7_0:=z7 0
    clear z7
    obtain ⟨⟨k8_0,k8_1,k8_2,k8_3,k8_4,k8_5,-⟩,z8⟩:=hS.cz ⟨w.heap.size+1,#[.slice none 0 0,.slice none 0 0,.slice none 0 0,.slice none 0 0,.slice none 0 0,.bool false],111⟩ (by simp)
    have z8_0:=z8 0
    have z8_1:=z8 1
    have z8_2:=z8 2
    have z8_3:=z8 3
    have z8_4:=z8 4
    have z8_5:=z8 5
    clear z8
    obtain ⟨⟨k9_0,k9_1,k9_2,k9_3,k9_4,k9_5,-⟩,z9⟩:=hS.cz ⟨w.heap.size,#[.bool s,.slice a1 n1 c1,.slice a2 n2 c2,.bool s,.slice a3 n3 c3,.slice a4 n4 c4],52⟩ (by simp)
    have z9_0:=z9 0
    have z9_1:=z9 1
    have z9_2:=z9 2
    have z9_3:=z9 3
    have z9_4:=z9 4
    have z9_5:=z9 5
    clear z9
    simp only [] at k0_0 z0_0 k1_0 z1_0 k2_0 z2_0 k3_0 z3_0 k4_0 z4_0 k5_0 z5_0 k6_0 z6_0 k7_0 z7_0 k8_0 z8_0 k8_1 z8_1 k8_2 z8_2 k8_3 z8_3 k8_4 z8_4 k8_5 z8_5 k9_0 z9_0 k9_1 z9_1 k9_2 z9_2 k9_3 z9_3 k9_4 z9_4 k9_5 z9_5
    go_wp2_with fail
    clear k0_0 z0_0 k1_0 z1_0 k2_0 z2_0 k3_0 z3_0 k4_0 z4_0 k5_0 z5_0 k6_0 z6_0 k7_0 z7_0 k8_0 z8_0 k8_1 z8_1 k8_2 z8_2 k8_3 z8_3 k8_4 z8_4 k8_5 z8_5 k9_0 z9_0 k9_1 z9_1 k9_2 z9_2 k9_3 z9_3 k9_4 z9_4 k9_5 z9_5
    refine (W_mulOver hS yR1 x4_C5 x8_C6 (hS.ow (yP1,yG1,yR1,yL1) (by simp)).num (hS.ow (x4_A5,x4_N5,x4_C5,x4_M5) (by simp)).num (hS.ow (x8_A6,x8_N6,x8_C6,x8_M6) (by simp)).num).mono ?_
    clear hS; rintro en w10 ⟨yA10,yN10,yC10,yM10,yP10,yG10,yR10,yL10,yE10,rfl,hS,q10,hz10⟩
    have Q10:=hide q10
    clear q10
    replace hS:=hS.alloc #[.slice yA10 yN10 yC10] 27
    try simp only [World.size_alloc] at hS
    replace hS:=hS.alloc #[.slice yP10 yG10 yR10] 27
    try simp only [World.size_alloc] at hS
    obtain ⟨⟨k0_0,-⟩,z0⟩:=hS.cz ⟨w10.heap.size+1,#[.slice yP10 yG10 yR10],27⟩ (by simp)
    have z0_0:=z0 0
    clear z0
    obtain ⟨⟨k1_0,-⟩,z1⟩:=hS.cz ⟨w10.heap.size,#[.slice yA10 yN10 yC10],27⟩ (by simp)
    have z1_0:=z1 0
    clear z1
    obtain ⟨⟨k2_0,-⟩,z2⟩:=hS.cz ⟨x9_g9,#[.slice x9_A8 x9_N8 x9_C8],27⟩ (by simp)
    have z2_0:=z2 0
    clear z2
    obtain ⟨⟨k3_0,-⟩,z3⟩:=hS.cz ⟨x8_g7,#[.slice x8_A6 x8_N6 x8_C6],27⟩ (by simp)
    have z3_0:=z3 0
    clear z3
    obtain ⟨⟨k4_0,-⟩,z4⟩:=hS.cz ⟨x4_g13,#[.slice x4_A11 x4_N11 x4_C11],27⟩ (by simp)
    have z4_0:=z4 0
    clear z4
    obtain ⟨⟨k5_0,-⟩,z5⟩:=hS.cz ⟨x4_g12,#[.slice x4_A5 x4_N5 x4_C5],27⟩ (by simp)
    have z5_0:=z5 0
    clear z5
    obtain ⟨⟨k6_0,-⟩,z6⟩:=hS.cz ⟨w2.heap.size+1,#[.slice yP2 yG2 yR2],27⟩ (by simp)
    have z6_0:=z6 0
    clear z6
    obtain ⟨⟨k7_0,-⟩,z7⟩:=hS.cz ⟨w2.heap.size,#[.slice yA2 yN2 yC2],27⟩ (by simp)
    have z7_0:=z7 0
    clear z7
    obtain ⟨⟨k8_0,-⟩,z8⟩:=hS.cz ⟨w1.heap.size+1,#[.slice yP1 yG1 yR1],27⟩ (by simp)
    have z8_0:=z8 0
    clear z8
    obtain ⟨⟨k9_0,-⟩,z9⟩:=hS.cz ⟨w1.heap.size,#[.slice yA1 yN1 yC1],27⟩ (by simp)
    have z9_0:=z9 0
    clear z9
    obtain ⟨⟨k10_0,k10_1,k10_2,k10_3,k10_4,k10_5,-⟩,z10⟩:=hS.cz ⟨w.heap.size+1,#[.slice none 0 0,.slice none 0 0,.slice none 0 0,.slice none 0 0,.slice none 0 0,.bool false],111⟩ (by simp)
    have z10_0:=z10 0
    have z10_1:=z10 1
    have z10_2:=z10 2
    have z10_3:=z10 3
    have z10_4:=z10 4
    have z10_5:=z10 5
    clear z10
    obtain ⟨⟨k11_0,k11_1,k11_2,k11_3,k11_4,k11_5,-⟩,z11⟩:=hS.cz ⟨w.heap.size,#[.bool s,.slice a1 n1 c1,.slice a2 n2 c2,.bool s,.slice a3 n3 c3,.slice a4 n4 c4],52⟩ (by simp)
    have z11_0:=z11 0
    have z11_1:=z11 1
    have z11_2:=z11 2
    have z11_3:=z11 3
    have z11_4:=z11 4
    have z11_5:=z11 5
    clear z11
    simp only [] at k0_0 z0_0 k1_0 z1_0 k2_0 z2_0 k3_0 z3_0 k4_0 z4_0 k5_0 z5_0 k6_0 z6_0 k7_0 z7_0 k8_0 z8_0 k9_0 z9_0 k10_0 z10_0 k10_1 z10_1 k10_2 z10_2 k10_3 z10_3 k10_4 z10_4 k10_5 z10_5 k11_0 z11_0 k11_1 z11_1 k11_2 z11_2 k11_3 z11_3 k11_4 z11_4 k11_5 z11_5
    go_wp2_with fail
    clear k0_0 z0_0 k1_0 z1_0 k2_0 z2_0 k3_0 z3_0 k4_0 z4_0 k5_0 z5_0 k6_0 z6_0 k7_0 z7_0 k8_0 z8_0 k9_0 z9_0 k10_0 z10_0 k10_1 z10_1 k10_2 z10_2 k10_3 z10_3 k10_4 z10_4 k10_5 z10_5 k11_0 z11_0 k11_1 z11_1 k11_2 z11_2 k11_3 z11_3 k11_4 z11_4 k11_5 z11_5
    refine (W_mulOver hS yR2 x4_C11 x8_C6 (hS.ow (yP2,yG2,yR2,yL2) (by simp)).num (hS.ow (x4_A11,x4_N11,x4_C11,x4_M11) (by simp)).num (hS.ow (x8_A6,x8_N6,x8_C6,x8_M6) (by simp)).num).mono ?_
    clear hS; rintro en w11 ⟨yA11,yN11,yC11,yM11,yP11,yG11,yR11,yL11,yE11,rfl,hS,q11,hz11⟩
    have Q11:=hide q11
    clear q11
    simp only [World.size_alloc] at hz11
    replace hS:=hS.alloc #[.slice yA11 yN11 yC11] 27
    try simp only [World.size_alloc] at hS
    replace hS:=hS.alloc #[.slice yP11 yG11 yR11] 27
    try simp only [World.size_alloc] at hS
    obtain ⟨⟨k0_0,-⟩,z0⟩:=hS.cz ⟨w11.heap.size+1,#[.slice yP11 yG11 yR11],27⟩ (by simp)
    have z0_0:=z0 0
    clear z0
    obtain ⟨⟨k1_0,-⟩,z1⟩:=hS.cz ⟨w11.heap.size,#[.slice yA11 yN11 yC11],27⟩ (by simp)
    have z1_0:=z1 0
    clear z1
    obtain ⟨⟨k2_0,-⟩,z2⟩:=hS.cz ⟨w10.heap.size+1,#[.slice yP10 yG10 yR10],27⟩ (by simp)
    have z2_0:=z2 0
    clear z2
    obtain ⟨⟨k3_0,-⟩,z3⟩:=hS.cz ⟨w10.heap.size,#[.slice yA10 yN10 yC10],27⟩ (by simp)
    have z3_0:=z3 0
    clear z3
    obtain ⟨⟨k4_0,-⟩,z4⟩:=hS.cz ⟨x9_g9,#[.slice x9_A8 x9_N8 x9_C8],27⟩ (by simp)
    have z4_0:=z4 0
    clear z4
    obtain ⟨⟨k5_0,-⟩,z5⟩:=hS.cz ⟨x8_g7,#[.slice x8_A6 x8_N6 x8_C6],27⟩ (by simp)
    have z5_0:=z5 0
    clear z5
    obtain ⟨⟨k6_0,-⟩,z6⟩:=hS.cz ⟨x4_g13,#[.slice x4_A11 x4_N11 x4_C11],27⟩ (by simp)
    have z6_0:=z6 0
    clear z6
    obtain ⟨⟨k7_0,-⟩,z7⟩:=hS.cz ⟨x4_g12,#[.slice x4_A5 x4_N5 x4_C5],27⟩ (by simp)
    have z7_0:=z7 0
    clear z7
    obtain ⟨⟨k8_0,-⟩,z8⟩:=hS.cz ⟨w2.heap.size+1,#[.slice yP2 yG2 yR2],27⟩ (by simp)
    have z8_0:=z8 0
    clear z8
    obtain ⟨⟨k9_0,-⟩,z9⟩:=hS.cz ⟨w2.heap.size,#[.slice yA2 yN2 yC2],27⟩ (by simp)
    have z9_0:=z9 0
    clear z9
    obtain ⟨⟨k10_0,-⟩,z10⟩:=hS.cz ⟨w1.heap.size+1,#[.slice yP1 yG1 yR1],27⟩ (by simp)
    have z10_0:=z10 0
    clear z10
    obtain ⟨⟨k11_0,-⟩,z11⟩:=hS.cz ⟨w1.heap.size,#[.slice yA1 yN1 yC1],27⟩ (by simp)
    have z11_0:=z11 0
    clear z11
    obtain ⟨⟨k12_0,k12_1,k12_2,k12_3,k12_4,k12_5,-⟩,z12⟩:=hS.cz ⟨w.heap.size+1,#[.slice none 0 0,.slice none 0 0,.slice none 0 0,.slice none 0 0,.slice none 0 0,.bool false],111⟩ (by simp)
    have z12_0:=z12 0
    have z12_1:=z12 1
    have z12_2:=z12 2
    have z12_3:=z12 3
    have z12_4:=z12 4
    have z12_5:=z12 5
    clear z12
    obtain ⟨⟨k13_0,k13_1,k13_2,k13_3,k13_4,k13_5,-⟩,z13⟩:=hS.cz ⟨w.heap.size,#[.bool s,.slice a1 n1 c1,.slice a2 n2 c2,.bool s,.slice a3 n3 c3,.slice a4 n4 c4],52⟩ (by simp)
    have z13_0:=z13 0
    have z13_1:=z13 1
    have z13_2:=z13 2
    have z13_3:=z13 3
    have z13_4:=z13 4
    have z13_5:=z13 5
    clear z13
    simp only [] at k0_0 z0_0 k1_0 z1_0 k2_0 z2_0 k3_0 z3_0 k4_0 z4_0 k5_0 z5_0 k6_0 z6_0 k7_0 z7_0 k8_0 z8_0 k9_0 z9_0 k10_0 z10_0 k11_0 z11_0 k12_0 z12_0 k12_1 z12_1 k12_2 z12_2 k12_3 z12_3 k12_4 z12_4 k12_5 z12_5 k13_0 z13_0 k13_1 z13_1 k13_2 z13_2 k13_3 z13_3 k13_4 z13_4 k13_5 z13_5
    go_wp2_with fail
    clear k0_0 z0_0 k1_0 z1_0 k2_0 z2_0 k3_0 z3_0 k4_0 z4_0 k5_0 z5_0 k6_0 z6_0 k7_0 z7_0 k8_0 z8_0 k9_0 z9_0 k10_0 z10_0 k11_0 z11_0 k12_0 z12_0 k12_1 z12_1 k12_2 z12_2 k12_3 z12_3 k12_4 z12_4 k12_5 z12_5 k13_0 z13_0 k13_1 z13_1 k13_2 z13_2 k13_3 z13_3 k13_4 z13_4 k13_5 z13_5
    replace hS:=hS.sub (bs':=[⟨w11.heap.size,#[.slice yA11 yN11 yC11],27⟩,⟨w10.heap.size+1,#[.slice yP10 yG10 yR10],27⟩,⟨w10.heap.size,#[.slice yA10 yN10 yC10],27⟩,⟨x9_g9,#[.slice x9_A8 x9_N8 x9_C8],27⟩,⟨w2.heap.size,#[.slice yA2 yN2 yC2],27⟩,⟨w1.heap.size,#[.slice yA1 yN1 yC1],27⟩,⟨w.heap.size+1,#[.slice none 0 0,.slice none 0 0,.slice none 0 0,.slice none 0 0,.slice none 0 0,.bool false],111⟩]) (ms':=[]) (os':=[(yA11,yN11,yC11,yM11),(yP10,yG10,yR10,yL10),(yA10,yN10,yC10,yM10),(x9_A8,x9_N8,x9_C8,x9_M8),(yA2,yN2,yC2,yM2),(yA1,yN1,yC1,yM1)]) (by intro x hx; rcases List.mem_cons.1 hx with rfl|hx; (simp); rcases List.mem_cons.1 hx with rfl|hx; (simp); rcases List.mem_cons.1 hx with rfl|hx; (simp); rcases List.mem_cons.1 hx with rfl|hx; (simp); rcases List.mem_cons.1 hx with rfl|hx; (simp); rcases List.mem_cons.1 hx with rfl|hx; (simp); rcases List.mem_cons.1 hx with rfl|hx; (simp); exact absurd hx List.not_mem_nil) (by intro x hx; exact absurd hx List.not_mem_nil) (by intro x hx; rcases List.mem_cons.1 hx with rfl|hx; (simp); rcases List.mem_cons.1 hx with rfl|hx; (simp); rcases List.mem_cons.1 hx with rfl|hx; (simp); rcases List.mem_cons.1 hx with rfl|hx; (simp); rcases List.mem_cons.1 hx with rfl|hx; (simp); rcases List.mem_cons.1 hx with rfl|hx; (simp); exact absurd hx List.not_mem_nil)
    refine wp_region_any (by kernel_rfl) ?_
    change wpAny _ _ _ _ _ _ _ (World.drew _)
    have hS9:=hS.drew
    have hsW9:(World.drew ((w11.alloc (.cells #[.slice yA11 yN11 yC11] 27)).alloc (.cells #[.slice yP11 yG11 yR11] 27))).heap.size = w11.heap.size+1+1:=by first|rfl|simp
    generalize World.drew ((w11.alloc (.cells #[.slice yA11 yN11 yC11] 27)).alloc (.cells #[.slice yP11 yG11 yR11] 27)) = Wd at hS9 hsW9 ⊢
    obtain ⟨S9,hS9z⟩:∃ x,x = Wd.heap.size:=⟨_,rfl⟩
    have hC9:=Rc.start (bs:=[⟨w11.heap.size,#[.slice yA11 yN11 yC11],27⟩,⟨w10.heap.size+1,#[.slice yP10 yG10 yR10],27⟩,⟨w10.heap.size,#[.slice yA10 yN10 yC10],27⟩,⟨x9_g9,#[.slice x9_A8 x9_N8 x9_C8],27⟩,⟨w2.heap.size,#[.slice yA2 yN2 yC2],27⟩,⟨w1.heap.size,#[.slice yA1 yN1 yC1],27⟩]) hS9 (by simp)
    rw [← hS9z] at hC9
    have hP9_0:=hS9.bx ⟨w.heap.size+1,#[.slice none 0 0,.slice none 0 0,.slice none 0 0,.slice none 0 0,.slice none 0 0,.bool false],111⟩ (by simp)
    have hP9_0:=block_lt hP9_0.1
    rw [← hS9z] at hP9_0
    simp only [] at hP9_0
    refine wpAny_inv (fun l act w'=>∃ σ,SplS12I w p s a1 a2 a3 a4 n1 n2 n3 n4 c1 c2 c3 c4 yA1 yN1 yC1 yM1 yP1 yG1 yR1 w1 yA2 yN2 yC2 yM2 yP2 yG2 yR2 w2 yA3 yN3 yC3 w3 x4_A5 x4_N5 x4_C5 x4_A11 x4_N11 x4_C11 x4_g12 x4_g13 yA5 yN5 yC5 yP5 yG5 yR5 w5 yA6 yN6 yC6 yP6 yG6 yR6 w6 yA7 yN7 yC7 x8_A4 x8_N4 x8_C4 x8_A6 x8_N6 x8_C6 x8_g7 x9_A7 x9_N7 x9_C7 x9_A8 x9_N8 x9_C8 x9_M8 x9_g9 yA10 yN10 yC10 yM10 yP10 yG10 yR10 yL10 w10 yA11 yN11 yC11 yM11 yP11 yG11 yR11 yE11 w11 S9 l act w' σ) ?_ ?_ _ _ _ _ ?_ ?_
    ·intro l act w' i9 hI9 hi9 hl9
     have hin9:i9 < 10:=by
      by_cases h:i9 < 10
      ·exact h
      ·obtain ⟨⟨⟩,rfl,_⟩:=hI9
       rw [Array.getElem?_eq_none (by simp; omega)] at hl9; cases hl9
     have hcase:i9 = 0∨i9 = 1∨i9 = 2∨i9 = 3∨i9 = 4∨i9 = 5∨i9 = 6∨i9 = 7∨i9 = 8∨i9 = 9:=by omega
     clear hin9
     obtain ⟨⟨b0,b1,b2,b3,b4,b5,b6,b7,b8,b9,v0,v1,v2,v3,v4,v5,v6,v7,v8,bs9,os9⟩,rfl,rfl,hR⟩:=hI9
     rcases hcase with rfl|rfl|rfl|rfl|rfl|rfl|rfl|rfl|rfl|rfl
     ·obtain rfl:b0 = false:=by simpa using hl9
      have hc:=hR.hc
      have c9_0:=hc.st.cellAt (hc.old ⟨w1.heap.size,#[.slice yA1 yN1 yC1],27⟩ (by simp)).1 0 (.slice yA1 yN1 yC1) rfl
      simp only [] at c9_0
      refine wpOp_step rfl fun K hK=>?_
      go_simp
      exact hK _ _ ⟨⟨_,_,_,_,_,_,_,_,_,_,_,_,_,_,_,_,_,_,_,_,_⟩,rfl,rfl,{ hR with hc:=hc,f0:=(fun _=>rfl) }⟩
     ·obtain rfl:b1 = false:=by simpa using hl9
      have hc:=hR.hc
      have c9_0:=hc.st.cellAt (hc.old ⟨w2.heap.size,#[.slice yA2 yN2 yC2],27⟩ (by simp)).1 0 (.slice yA2 yN2 yC2) rfl
      simp only [] at c9_0
      refine wpOp_step rfl fun K hK=>?_
      go_simp
      exact hK _ _ ⟨⟨_,_,_,_,_,_,_,_,_,_,_,_,_,_,_,_,_,_,_,_,_⟩,rfl,rfl,{ hR with hc:=hc,f1:=(fun _=>rfl) }⟩
     ·obtain rfl:b2 = false:=by simpa using hl9
      have hc:=hR.hc
      have c9_0:=hc.st.cellAt (hc.old ⟨w10.heap.size,#[.slice yA10 yN10 yC10],27⟩ (by simp)).1 0 (.slice yA10 yN10 yC10) rfl
      simp only [] at c9_0
      refine wpOp_step rfl fun K hK=>?_
      go_simp
      exact hK _ _ ⟨⟨_,_,_,_,_,_,_,_,_,_,_,_,_,_,_,_,_,_,_,_,_⟩,rfl,rfl,{ hR with hc:=hc,f2:=(fun _=>rfl) }⟩
     ·obtain rfl:b3 = false:=by simpa using hl9
      have hc:=hR.hc
      have c9_0:=hc.st.cellAt (hc.old ⟨w11.heap.size,#[.slice yA11 yN11 yC11],27⟩ (by simp)).1 0 (.slice yA11 yN11 yC11) rfl
      simp only [] at c9_0
      refine wpOp_step rfl fun K hK=>?_
      go_simp
      exact hK _ _ ⟨⟨_,_,_,_,_,_,_,_,_,_,_,_,_,_,_,_,_,_,_,_,_⟩,rfl,rfl,{ hR with hc:=hc,f3:=(fun _=>rfl) }⟩
     ·obtain rfl:b4 = false:=by simpa using hl9
      have hc:=hR.hc
      have c9_0:=hc.st.cellAt (hc.old ⟨x9_g9,#[.slice x9_A8 x9_N8 x9_C8],27⟩ (by simp)).1 0 (.slice x9_A8 x9_N8 x9_C8) rfl
      simp only [] at c9_0
      refine wpOp_step rfl fun K hK=>?_
      go_simp
      exact hK _ _ ⟨⟨_,_,_,_,_,_,_,_,_,_,_,_,_,_,_,_,_,_,_,_,_⟩,rfl,rfl,{ hR with hc:=hc,f4:=(fun _=>rfl) }⟩
     ·obtain rfl:b5 = false:=by simpa using hl9
      have hc:=hR.hc
      have c9_0:=hc.st.cellAt (hc.old ⟨w10.heap.size+1,#[.slice yP10 yG10 yR10],27⟩ (by simp)).1 0 (.slice yP10 yG10 yR10) rfl
      simp only [] at c9_0
      refine wpOp_step rfl fun K hK=>?_
      go_simp
      exact hK _ _ ⟨⟨_,_,_,_,_,_,_,_,_,_,_,_,_,_,_,_,_,_,_,_,_⟩,rfl,rfl,{ hR with hc:=hc,f5:=(fun _=>rfl) }⟩
     ·obtain rfl:b6 = false:=by simpa using hl9
      obtain ⟨o9,ho9,hd9⟩:=(mem_ready.1 hi9).2
      cases ho9
      have e5:b5 = true:=hd9 ⟨5,.data⟩ (by simp) rfl
      subst e5
      have h9:=hR.f5 rfl
      subst h9
      have hc:=hR.hc
      have HR:=hide hR
      clear hR
      refine wpOp_step rfl fun K hK=>?_
      go_simp
      go_wp2_with fail
      refine (nought_any yP10 yG10 yR10 _).mono ?_
      rintro en w9 ⟨rfl,hb9⟩
      have hR:=unhide HR
      exact hK _ _ ⟨⟨_,_,_,_,_,_,_,_,_,_,_,_,_,_,_,_,_,_,_,_,_⟩,rfl,rfl,{ hR with hc:=(hc.call (hc.st.kept hb9) hb9.size (fun y hy=>hy)),f6:=(fun _=>rfl) }⟩
     ·obtain rfl:b7 = false:=by simpa using hl9
      obtain ⟨o9,ho9,hd9⟩:=(mem_ready.1 hi9).2
      cases ho9
      have e6:b6 = true:=hd9 ⟨6,.data⟩ (by simp) rfl
      subst e6
      have h9:=hR.f6 rfl
      subst h9
      have hc:=hR.hc
      refine wpOp_step rfl fun K hK=>?_
      go_simp
      exact hK _ _ ⟨⟨_,_,_,_,_,_,_,_,_,_,_,_,_,_,_,_,_,_,_,_,_⟩,rfl,rfl,{ hR with hc:=hc,f7:=(fun _=>by first|rfl|simp) }⟩
     ·obtain rfl:b8 = false:=by simpa using hl9
      obtain ⟨o9,ho9,hd9⟩:=(mem_ready.1 hi9).2
      cases ho9
      have e0:b0 = true:=hd9 ⟨0,.data⟩ (by simp) rfl
      have e1:b1 = true:=hd9 ⟨1,.data⟩ (by simp) rfl
      have e2:b2 = true:=hd9 ⟨2,.data⟩ (by simp) rfl
      have e3:b3 = true:=hd9 ⟨3,.data⟩ (by simp) rfl
      have e4:b4 = true:=hd9 ⟨4,.data⟩ (by simp) rfl
      have e7:b7 = true:=hd9 ⟨7,.data⟩ (by simp) rfl
      subst e0 e1 e2 e3 e4 e7
      have h9:=hR.f0 rfl
      subst h9
      have h9:=hR.f1 rfl
      subst h9
      have h9:=hR.f2 rfl
      subst h9
      have h9:=hR.f3 rfl
      subst h9
      have h9:=hR.f4 rfl
      subst h9
      have h9:=hR.f7 rfl
      subst h9
      have hc:=hR.hc
      refine wpOp_step rfl fun K hK=>?_
      go_simp
      exact hK _ _ ⟨⟨_,_,_,_,_,_,_,_,_,_,_,_,_,_,_,_,_,_,_,_,_⟩,rfl,rfl,{ hR with hc:=hc,f8:=(fun _=>by first|rfl|simp),o0_1:=(fun h=>Bool.noConfusion (hR.g9_8 h)),g9_8:=(fun _=>rfl) }⟩
     ·obtain rfl:b9 = false:=by simpa using hl9
      obtain ⟨o9,ho9,hd9⟩:=(mem_ready.1 hi9).2
      cases ho9
      have e8:b8 = true:=hd9 ⟨8,.data⟩ (by simp) rfl
      subst e8
      have h9:=hR.f8 rfl
      subst h9
      have hc:=hR.hc
      have hm9:=hR.o0_0 rfl
      have fz9_0:=hc.st.frozen hm9 0
      have cz9_0:=hc.st.cellAt hm9 0 (.slice none 0 0) rfl
      simp only [] at fz9_0 cz9_0
      have fz9_1:=hc.st.frozen hm9 1
      have cz9_1:=hc.st.cellAt hm9 1 (.slice none 0 0) rfl
      simp only [] at fz9_1 cz9_1
      have fz9_2:=hc.st.frozen hm9 2
      have cz9_2:=hc.st.cellAt hm9 2 (.slice none 0 0) rfl
      simp only [] at fz9_2 cz9_2
      have fz9_3:=hc.st.frozen hm9 3
      have cz9_3:=hc.st.cellAt hm9 3 (.slice none 0 0) rfl
      simp only [] at fz9_3 cz9_3
      have fz9_4:=hc.st.frozen hm9 4
      have cz9_4:=hc.st.cellAt hm9 4 (.slice none 0 0) rfl
      simp only [] at fz9_4 cz9_4
      have fz9_5:=hc.st.frozen hm9 5
      have cz9_5:=hc.st.cellAt hm9 5 (.bool false) rfl
      simp only [] at fz9_5 cz9_5
      have hn9:∀ x,x∈([⟨w11.heap.size,#[.slice yA11 yN11 yC11],27⟩,⟨w10.heap.size+1,#[.slice yP10 yG10 yR10],27⟩,⟨w10.heap.size,#[.slice yA10 yN10 yC10],27⟩,⟨x9_g9,#[.slice x9_A8 x9_N8 x9_C8],27⟩,⟨w2.heap.size,#[.slice yA2 yN2 yC2],27⟩,⟨w1.heap.size,#[.slice yA1 yN1 yC1],27⟩]:List En)→x.b≠w.heap.size+1:=by intro x hx; rcases List.mem_cons.1 hx with rfl|hx; (simp only []; omega); rcases List.mem_cons.1 hx with rfl|hx; (simp only []; omega); rcases List.mem_cons.1 hx with rfl|hx; (simp only []; omega); rcases List.mem_cons.1 hx with rfl|hx; (simp only []; omega); rcases List.mem_cons.1 hx with rfl|hx; (simp only []; omega); rcases List.mem_cons.1 hx with rfl|hx; (simp only []; omega);  exact absurd hx List.not_mem_nil
      have hw9:w.heap.size≤w.heap.size+1:=by omega
      refine wpOp_step rfl fun K hK=>?_
      go_simp
      exact hK _ _ ⟨⟨_,_,_,_,_,_,_,_,_,_,_,_,_,_,_,_,_,_,_,_,_⟩,rfl,rfl,{ hR with hc:=((((((hc.store hm9 hw9 hn9 0 (.slice yA1 yN1 yC1) (by simp)).store (List.mem_cons_self ..) hw9 hn9 1 (.slice yA2 yN2 yC2) (by simp)).store (List.mem_cons_self ..) hw9 hn9 2 (.slice yA10 yN10 yC10) (by simp)).store (List.mem_cons_self ..) hw9 hn9 3 (.slice yA11 yN11 yC11) (by simp)).store (List.mem_cons_self ..) hw9 hn9 4 (.slice x9_A8 x9_N8 x9_C8) (by simp)).store (List.mem_cons_self ..) hw9 hn9 5 (.bool (!(decide (yG10 = 0)))) (by simp)),o0_0:=(fun h=>Bool.noConfusion h),o0_1:=(fun _=>List.mem_cons_self ..),g9_8:=(fun _=>rfl) }⟩
    ·rintro l act Wq12 ⟨⟨b0,b1,b2,b3,b4,b5,b6,b7,b8,b9,v0,v1,v2,v3,v4,v5,v6,v7,v8,bs9,os9⟩,rfl,rfl,hR⟩ hr9
     obtain ⟨hc,f0,f1,f2,f3,f4,f5,f6,f7,f8,o0_0,o0_1,g9_8⟩:=hR
     have eall:=all_done hr9 (by kernel_rfl) rfl
     obtain rfl:b0 = true:=eall 0 (by decide)
     obtain rfl:b1 = true:=eall 1 (by decide)
     obtain rfl:b2 = true:=eall 2 (by decide)
     obtain rfl:b3 = true:=eall 3 (by decide)
     obtain rfl:b4 = true:=eall 4 (by decide)
     obtain rfl:b5 = true:=eall 5 (by decide)
     obtain rfl:b6 = true:=eall 6 (by decide)
     obtain rfl:b7 = true:=eall 7 (by decide)
     obtain rfl:b8 = true:=eall 8 (by decide)
     obtain rfl:b9 = true:=eall 9 (by decide)
     clear hr9 eall
     have h9:=f0 rfl
     subst h9
     have h9:=f1 rfl
     subst h9
     have h9:=f2 rfl
     subst h9
     have h9:=f3 rfl
     subst h9
     have h9:=f4 rfl
     subst h9
     have h9:=f5 rfl
     subst h9
     have h9:=f6 rfl
     subst h9
     have h9:=f7 rfl
     subst h9
     have h9:=f8 rfl
     subst h9
     have hbs9:∀ x,x∈([⟨w.heap.size+1,#[.slice yA1 yN1 yC1,.slice yA2 yN2 yC2,.slice yA10 yN10 yC10,.slice yA11 yN11 yC11,.slice x9_A8 x9_N8 x9_C8,.bool (!(decide (yG10 = 0)))],111⟩,⟨w11.heap.size,#[.slice yA11 yN11 yC11],27⟩,⟨w10.heap.size+1,#[.slice yP10 yG10 yR10],27⟩,⟨w10.heap.size,#[.slice yA10 yN10 yC10],27⟩,⟨x9_g9,#[.slice x9_A8 x9_N8 x9_C8],27⟩,⟨w2.heap.size,#[.slice yA2 yN2 yC2],27⟩,⟨w1.heap.size,#[.slice yA1 yN1 yC1],27⟩]:List En)→x∈bs9:=by
      intro x hx
      rcases List.mem_cons.1 hx with rfl|hx
      ·exact (o0_1 rfl)
      rcases List.mem_cons.1 hx with rfl|hx
      ·exact (hc.old _ (by simp)).1
      rcases List.mem_cons.1 hx with rfl|hx
      ·exact (hc.old _ (by simp)).1
      rcases List.mem_cons.1 hx with rfl|hx
      ·exact (hc.old _ (by simp)).1
      rcases List.mem_cons.1 hx with rfl|hx
      ·exact (hc.old _ (by simp)).1
      rcases List.mem_cons.1 hx with rfl|hx
      ·exact (hc.old _ (by simp)).1
      rcases List.mem_cons.1 hx with rfl|hx
      ·exact (hc.old _ (by simp)).1
      exact absurd hx List.not_mem_nil
     have hos9:∀ x,x∈([(yA11,yN11,yC11,yM11),(yP10,yG10,yR10,yL10),(yA10,yN10,yC10,yM10),(x9_A8,x9_N8,x9_C8,x9_M8),(yA2,yN2,yC2,yM2),(yA1,yN1,yC1,yM1)]:Os)→x∈os9:=by
      intro x hx
      rcases List.mem_cons.1 hx with rfl|hx
      ·exact hc.oso _ (by simp)
      rcases List.mem_cons.1 hx with rfl|hx
      ·exact hc.oso _ (by simp)
      rcases List.mem_cons.1 hx with rfl|hx
      ·exact hc.oso _ (by simp)
      rcases List.mem_cons.1 hx with rfl|hx
      ·exact hc.oso _ (by simp)
      rcases List.mem_cons.1 hx with rfl|hx
      ·exact hc.oso _ (by simp)
      rcases List.mem_cons.1 hx with rfl|hx
      ·exact hc.oso _ (by simp)
      exact absurd hx List.not_mem_nil
     have hS:=hc.st.sub hbs9 (fun x hx=>hx) hos9
     have hsz9:=hc.sz
     rw [hS9z,hsW9] at hsz9
     clear hbs9 hos9 hc f0 f1 f2 f3 f4 f5 f6 f7 f8 o0_0 o0_1 g9_8
     have hz12:=hsz9
     clear hsz9 hS9z hS9 hC9 hsW9
     obtain ⟨⟨k0_0,k0_1,k0_2,k0_3,k0_4,k0_5,-⟩,z0⟩:=hS.cz ⟨w.heap.size+1,#[.slice yA1 yN1 yC1,.slice yA2 yN2 yC2,.slice yA10 yN10 yC10,.slice yA11 yN11 yC11,.slice x9_A8 x9_N8 x9_C8,.bool (!(decide (yG10 = 0)))],111⟩ (by simp)
     have z0_0:=z0 0
     have z0_1:=z0 1
     have z0_2:=z0 2
     have z0_3:=z0 3
     have z0_4:=z0 4
     have z0_5:=z0 5
     clear z0
     simp only [] at k0_0 z0_0 k0_1 z0_1 k0_2 z0_2 k0_3 z0_3 k0_4 z0_4 k0_5 z0_5
     go_wp2
     have hnb:=(hS.ow (yP10,yG10,yR10,yL10) (by simp)).num.zero
     have hend:=spl_end (same:=true) hd1 hd2 hc1 hc2 hl1 hl2 (unhide Q1) (unhide Q2) (unhide Q3) (unhide Qx4_5) (unhide Qx4_11) (unhide Q5) (unhide Q6) (unhide Q7) (unhide Qx8_4) (unhide Qx8_6) (unhide Qx9_7) (unhide Qx9_8) (unhide Q10) (unhide Q11) hnb
     exact bodyPost_ret (v:=.agg #[.slice yA1 yN1 yC1,.slice yA2 yN2 yC2,.slice yA10 yN10 yC10,.slice yA11 yN11 yC11,.slice x9_A8 x9_N8 x9_C8,.bool (!(decide (yG10 = 0)))]) (by simp [results,Tryz.results72,go_sem,k0_0,k0_1,k0_2,k0_3,k0_4,k0_5]) rfl ⟨_,_,_,_,_,_,_,_,_,_,_,_,_,_,_,_,_,_,_,_,_,_,rfl,hS.ow (yA1,yN1,yC1,yM1) (by simp),hS.ow (yA2,yN2,yC2,yM2) (by simp),hS.ow (yA10,yN10,yC10,yM10) (by simp),hS.ow (yA11,yN11,yC11,yM11) (by simp),hS.ow (x9_A8,x9_N8,x9_C8,x9_M8) (by simp),hend,hS.wk,hS.fr⟩
    ·simp
    ·exact ⟨⟨false,false,false,false,false,false,false,false,false,false,undef,undef,undef,undef,undef,undef,undef,undef,undef,_,_⟩,rfl,rfl,⟨hC9,nb,nb,nb,nb,nb,nb,nb,nb,nb,(fun _=>by simp),nb,nb⟩⟩
   ·simp
   ·exact ⟨⟨false,false,false,false,false,false,false,false,false,false,false,undef,undef,undef,undef,undef,undef,undef,undef,undef,undef,none,0,0,0,0,none,0,0,0,0,_,_⟩,rfl,rfl,⟨hC9,nb,nb,nb,nb,nb,nb,nb,nb,nb,nb,nb,nb,nb,nb,nb⟩⟩
  ·simp
  ·exact ⟨⟨false,false,false,false,false,false,false,false,false,undef,undef,undef,undef,undef,undef,undef,undef,none,0,0,0,0,none,0,0,0,0,_,_⟩,rfl,rfl,⟨hC9,nb,nb,nb,nb,nb,nb,nb,nb,nb,nb,nb,nb,nb⟩⟩
 ·simp
 ·exact ⟨⟨false,false,false,false,false,false,false,false,false,false,false,false,false,false,false,false,undef,undef,undef,undef,undef,undef,undef,undef,undef,undef,undef,undef,undef,undef,none,0,0,0,0,none,0,0,0,0,_,_⟩,rfl,rfl,⟨hC9,nb,nb,nb,nb,nb,nb,nb,nb,nb,nb,nb,nb,nb,nb,nb,nb,nb,nb,nb,nb,nb,nb,nb⟩⟩
end Go.Proofs.YtfhmbnnlcjdblaaGreat
