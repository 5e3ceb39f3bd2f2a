/- Of what RatioOrderRow stands on: RApart. -/
import Derived.Test.YtfhmbnnlcjdblaaGreatPav
import Derived.Test.YtfhmbnnlcjdblaaGreatPas
namespace Go.Proofs.YtfhmbnnlcjdblaaGreat
open Go.RowKit
set_option maxHeartbeats 32000000
set_option maxRecDepth 20000
def apSign (m1 d1 m2 d2:Nat) (s t:Bool):Bool:=if Rm.low m1 d1 m2 d2 then t else s
structure ApaHL7S where
 (b0 b1 b2 b3 b4 b5 b6 b7 b8 b9 b10 b11 b12 b13 b14:Bool)
 (v0 v1 v2 v3 v4 v5 v6 v7 v8 v9 v10 v11 v12 v13:Value)
 (A5:Option Addr)
 (N5 C5:Nat)
 (M5:Nat)
 (E5:Int)
 (A11:Option Addr)
 (N11 C11:Nat)
 (M11:Nat)
 (E11:Int)
 (A12:Option Addr)
 (N12 C12:Nat)
 (M12:Nat)
 (E12:Int)
 bs9:List En
 os9:Os
structure ApaHL7R (w:World) (p:Nat) (s t:Bool) (a1 a2 a3 a4:Option Addr) (n1 n2 n3 n4 c1 c2 c3 c4:Nat) (B1 B2 B3 B4 B5:Option Addr) (K1 K2 K3 K4 K5 D1 D2 D3 D4 D5 V1 V2 V5:Nat) (w1:World) (br:Bool) (yA3:Option Addr) (yN3 yC3:Nat) (w3:World) (x5_A2:Option Addr) (x5_N2:Nat) (x5_C2:Nat) (x5_A3:Option Addr) (x5_N3:Nat) (x5_C3:Nat) (x5_M3:Nat) (x6_A6:Option Addr) (x6_N6:Nat) (x6_C6:Nat) (x6_A9:Option Addr) (x6_N9:Nat) (x6_C9:Nat) (x6_M9:Nat) (x6_E9:Int) (S9:Nat) (b0 b1 b2 b3 b4 b5 b6 b7 b8 b9 b10 b11 b12 b13 b14:Bool) (v0 v1 v2 v3 v4 v5 v6 v7 v8 v9 v10 v11 v12 v13:Value) (A5:Option Addr) (N5 C5:Nat) (M5:Nat) (E5:Int) (A11:Option Addr) (N11 C11:Nat) (M11:Nat) (E11:Int) (A12:Option Addr) (N12 C12:Nat) (M12:Nat) (E12:Int) (bs9:List En) (os9:Os) (w':World):Prop where
 hc:Rc w S9 [⟨w1.heap.size,#[.slice B1 K1 D1,.slice B2 K2 D2,.slice x6_A9 x6_N9 x6_C9,.slice none 0 0,.slice B5 K5 D5,.bool br],111⟩,⟨w3.heap.size,#[.slice x5_A3 x5_N3 x5_C3],27⟩,⟨w.heap.size+1,#[.bool false,.slice none 0 0,.slice none 0 0],29⟩] [] [(x6_A9,x6_N9,x6_C9,x6_M9),(x5_A3,x5_N3,x5_C3,x5_M3),(B5,K5,D5,V5),(B2,K2,D2,V2),(B1,K1,D1,V1)] (some ((p),(cond b12 E12 (cond b11 E11 (cond b5 E5 x6_E9))))) bs9 os9 w'
 f0:b0 = true→v0 = .pointer (some ⟨p,0,none⟩)
 f1:b1 = true→v1 = .pointer (some ⟨p,0,none⟩)
 f2:b2 = true→v2 = .agg #[.slice x5_A3 x5_N3 x5_C3]
 f3:b3 = true→v3 = .pointer (some ⟨w1.heap.size,4,none⟩)
 f4:b4 = true→v4 = .agg #[.slice B5 K5 D5]
 f5:b5 = true→v5 = .agg #[.slice A5 N5 C5]∧(A5,N5,C5,M5)∈os9∧Wz x6_E9 E5 M5 (x5_M3 * V5) (Over (x5_M3 * V5))
 f6:b6 = true→v6 = .pointer (some ⟨p,0,none⟩)
 f7:b7 = true→v7 = .pointer (some ⟨w1.heap.size,2,none⟩)
 f8:b8 = true→v8 = .agg #[.slice x6_A9 x6_N9 x6_C9]
 f9:b9 = true→v9 = .pointer (some ⟨w1.heap.size,3,none⟩)
 f10:b10 = true→v10 = .agg #[.slice none 0 0]
 f11:b11 = true→v11 = .agg #[.slice A11 N11 C11]∧(A11,N11,C11,M11)∈os9∧Wz E5 E11 M11 (x6_M9 - 0) (False)
 f12:b12 = true→v12 = .agg #[.slice A12 N12 C12]∧(A12,N12,C12,M12)∈os9∧Wz E11 E12 M12 (M5+M11) (Over (M5+M11))
 f13:b13 = true→AlV bs9 S9 v13 27
 f14:b14 = true→StV bs9 S9 v13 v12 27
 g11_5:b11 = true→b5 = true
 g12_5:b12 = true→b5 = true
 g12_11:b12 = true→b11 = true
 g14_13:b14 = true→b13 = true
 g14_12:b14 = true→b12 = true
 g14_5:b14 = true→b5 = true
 g14_11:b14 = true→b11 = true
def ApaHL7I (w:World) (p:Nat) (s t:Bool) (a1 a2 a3 a4:Option Addr) (n1 n2 n3 n4 c1 c2 c3 c4:Nat) (B1 B2 B3 B4 B5:Option Addr) (K1 K2 K3 K4 K5 D1 D2 D3 D4 D5 V1 V2 V5:Nat) (w1:World) (br:Bool) (yA3:Option Addr) (yN3 yC3:Nat) (w3:World) (x5_A2:Option Addr) (x5_N2:Nat) (x5_C2:Nat) (x5_A3:Option Addr) (x5_N3:Nat) (x5_C3:Nat) (x5_M3:Nat) (x6_A6:Option Addr) (x6_N6:Nat) (x6_C6:Nat) (x6_A9:Option Addr) (x6_N9:Nat) (x6_C9:Nat) (x6_M9:Nat) (x6_E9:Int) (S9:Nat) (l:Array Bool) (act:Act) (w':World):ApaHL7S→Prop
 | ⟨b0,b1,b2,b3,b4,b5,b6,b7,b8,b9,b10,b11,b12,b13,b14,v0,v1,v2,v3,v4,v5,v6,v7,v8,v9,v10,v11,v12,v13,A5,N5,C5,M5,E5,A11,N11,C11,M11,E11,A12,N12,C12,M12,E12,bs9,os9⟩=>l = #[b0,b1,b2,b3,b4,b5,b6,b7,b8,b9,b10,b11,b12,b13,b14]∧act = { tmps:=#[.pointer (some ⟨p,0,none⟩),.agg #[.bool s,.slice a1 n1 c1,.slice a2 n2 c2,.bool t,.slice a3 n3 c3,.slice a4 n4 c4],undef,.pointer (some ⟨w.heap.size,0,none⟩),.pointer (some ⟨w.heap.size+1,0,none⟩),.int .i64 0,.pointer (some ⟨w1.heap.size,0,none⟩),.bool s,.pointer (some ⟨w3.heap.size,0,none⟩),v13,.pointer (some ⟨p,0,none⟩),.agg #[.bool s,.slice a1 n1 c1,.slice a2 n2 c2,.bool t,.slice a3 n3 c3,.slice a4 n4 c4],.agg #[.slice B1 K1 D1,.slice B2 K2 D2,.slice B3 K3 D3,.slice B4 K4 D4,.slice B5 K5 D5,.bool br],.pointer (some ⟨w.heap.size,0,none⟩),.pointer (some ⟨w.heap.size,0,none⟩),.bool s,.agg #[.slice B1 K1 D1,.slice B2 K2 D2,.slice B3 K3 D3,.slice B4 K4 D4,.slice B5 K5 D5,.bool br],.pointer (some ⟨p,0,none⟩),.bool false,undef,undef,undef,undef,undef,undef,undef,undef,undef,undef,undef,undef,undef,undef,undef,.pointer (some ⟨p,0,none⟩),.pointer (some ⟨w1.heap.size,0,none⟩),.agg #[.slice B1 K1 D1],.pointer (some ⟨w1.heap.size,1,none⟩),.agg #[.slice B2 K2 D2],.agg #[.slice yA3 yN3 yC3],.pointer (some ⟨p,0,none⟩),.pointer (some ⟨w1.heap.size,2,none⟩),.agg #[.slice B3 K3 D3],.pointer (some ⟨w1.heap.size,3,none⟩),.agg #[.slice B4 K4 D4],.int .i64 (-1),.bool true,.pointer (some ⟨p,0,none⟩),.agg #[.slice yA3 yN3 yC3],.agg #[.slice x5_A2 x5_N2 x5_C2],.agg #[.slice x5_A3 x5_N3 x5_C3],.pointer (some ⟨p,0,none⟩),.pointer (some ⟨p,0,none⟩),.pointer (some ⟨w1.heap.size,4,none⟩),.agg #[.slice B5 K5 D5],.pointer (some ⟨w1.heap.size,3,none⟩),.agg #[.slice B4 K4 D4],.agg #[.slice x6_A6 x6_N6 x6_C6],.pointer (some ⟨w1.heap.size,2,none⟩),.agg #[.slice B3 K3 D3],.agg #[.slice x6_A9 x6_N9 x6_C9],.pointer (some ⟨w1.heap.size,2,none⟩),.agg #[.slice none 0 0],.pointer (some ⟨w1.heap.size,3,none⟩),v0,v1,v2,v3,v4,v5,v6,v7,v8,v9,v10,v11,v12,undef,undef,undef,undef,undef,undef,undef,undef],defers:=[] }∧ApaHL7R w p s t a1 a2 a3 a4 n1 n2 n3 n4 c1 c2 c3 c4 B1 B2 B3 B4 B5 K1 K2 K3 K4 K5 D1 D2 D3 D4 D5 V1 V2 V5 w1 br yA3 yN3 yC3 w3 x5_A2 x5_N2 x5_C2 x5_A3 x5_N3 x5_C3 x5_M3 x6_A6 x6_N6 x6_C6 x6_A9 x6_N9 x6_C9 x6_M9 x6_E9 S9 b0 b1 b2 b3 b4 b5 b6 b7 b8 b9 b10 b11 b12 b13 b14 v0 v1 v2 v3 v4 v5 v6 v7 v8 v9 v10 v11 v12 v13 A5 N5 C5 M5 E5 A11 N11 C11 M11 E11 A12 N12 C12 M12 E12 bs9 os9 w'
structure ApaHL6S where
 (b0 b1 b2 b3 b4 b5 b6 b7 b8 b9 b10 b11:Bool)
 (v0 v1 v2 v3 v4 v5 v6 v7 v8 v9 v10:Value)
 (A6:Option Addr)
 (N6 C6:Nat)
 (M6:Nat)
 (E6:Int)
 (A9:Option Addr)
 (N9 C9:Nat)
 (M9:Nat)
 (E9:Int)
 bs9:List En
 os9:Os
structure ApaHL6R (w:World) (p:Nat) (s t:Bool) (a1 a2 a3 a4:Option Addr) (n1 n2 n3 n4 c1 c2 c3 c4:Nat) (B1 B2 B3 B4 B5:Option Addr) (K1 K2 K3 K4 K5 D1 D2 D3 D4 D5 V1 V2 V3 V4 V5:Nat) (w1:World) (br:Bool) (yA3:Option Addr) (yN3 yC3:Nat) (w3:World) (x5_A2:Option Addr) (x5_N2:Nat) (x5_C2:Nat) (x5_A3:Option Addr) (x5_N3:Nat) (x5_C3:Nat) (x5_M3:Nat) (x5_E3:Int) (S9:Nat) (b0 b1 b2 b3 b4 b5 b6 b7 b8 b9 b10 b11:Bool) (v0 v1 v2 v3 v4 v5 v6 v7 v8 v9 v10:Value) (A6:Option Addr) (N6 C6:Nat) (M6:Nat) (E6:Int) (A9:Option Addr) (N9 C9:Nat) (M9:Nat) (E9:Int) (bs9:List En) (os9:Os) (w':World):Prop where
 hc:Rc w S9 [⟨w3.heap.size,#[.slice x5_A3 x5_N3 x5_C3],27⟩,⟨w.heap.size+1,#[.bool false,.slice none 0 0,.slice none 0 0],29⟩] [] [(x5_A3,x5_N3,x5_C3,x5_M3),(B5,K5,D5,V5),(B4,K4,D4,V4),(B3,K3,D3,V3),(B2,K2,D2,V2),(B1,K1,D1,V1)] (some ((p),(cond b9 E9 (cond b6 E6 x5_E3)))) bs9 os9 w'
 f0:b0 = true→v0 = .pointer (some ⟨p,0,none⟩)
 f1:b1 = true→v1 = .pointer (some ⟨p,0,none⟩)
 f2:b2 = true→v2 = .pointer (some ⟨w1.heap.size,4,none⟩)
 f3:b3 = true→v3 = .agg #[.slice B5 K5 D5]
 f4:b4 = true→v4 = .pointer (some ⟨w1.heap.size,3,none⟩)
 f5:b5 = true→v5 = .agg #[.slice B4 K4 D4]
 f6:b6 = true→v6 = .agg #[.slice A6 N6 C6]∧(A6,N6,C6,M6)∈os9∧Wz x5_E3 E6 M6 (V5 - V4) (False)
 f7:b7 = true→v7 = .pointer (some ⟨w1.heap.size,2,none⟩)
 f8:b8 = true→v8 = .agg #[.slice B3 K3 D3]
 f9:b9 = true→v9 = .agg #[.slice A9 N9 C9]∧(A9,N9,C9,M9)∈os9∧Wz E6 E9 M9 (M6+V3) (Over (M6+V3))
 f10:b10 = true→v10 = .pointer (some ⟨w1.heap.size,2,none⟩)
 o0_0:b11 = false→⟨w1.heap.size,#[.slice B1 K1 D1,.slice B2 K2 D2,.slice B3 K3 D3,.slice B4 K4 D4,.slice B5 K5 D5,.bool br],111⟩∈bs9
 o0_1:b11 = true→⟨w1.heap.size,#[.slice B1 K1 D1,.slice B2 K2 D2,.slice A9 N9 C9,.slice B4 K4 D4,.slice B5 K5 D5,.bool br],111⟩∈bs9
 g11_3:b11 = true→b3 = true
 g11_5:b11 = true→b5 = true
 g11_8:b11 = true→b8 = true
 g9_6:b9 = true→b6 = true
 g11_9:b11 = true→b9 = true
 g11_6:b11 = true→b6 = true
def ApaHL6I (w:World) (p:Nat) (s t:Bool) (a1 a2 a3 a4:Option Addr) (n1 n2 n3 n4 c1 c2 c3 c4:Nat) (B1 B2 B3 B4 B5:Option Addr) (K1 K2 K3 K4 K5 D1 D2 D3 D4 D5 V1 V2 V3 V4 V5:Nat) (w1:World) (br:Bool) (yA3:Option Addr) (yN3 yC3:Nat) (w3:World) (x5_A2:Option Addr) (x5_N2:Nat) (x5_C2:Nat) (x5_A3:Option Addr) (x5_N3:Nat) (x5_C3:Nat) (x5_M3:Nat) (x5_E3:Int) (S9:Nat) (l:Array Bool) (act:Act) (w':World):ApaHL6S→Prop
 | ⟨b0,b1,b2,b3,b4,b5,b6,b7,b8,b9,b10,b11,v0,v1,v2,v3,v4,v5,v6,v7,v8,v9,v10,A6,N6,C6,M6,E6,A9,N9,C9,M9,E9,bs9,os9⟩=>l = #[b0,b1,b2,b3,b4,b5,b6,b7,b8,b9,b10,b11]∧act = { tmps:=#[.pointer (some ⟨p,0,none⟩),.agg #[.bool s,.slice a1 n1 c1,.slice a2 n2 c2,.bool t,.slice a3 n3 c3,.slice a4 n4 c4],undef,.pointer (some ⟨w.heap.size,0,none⟩),.pointer (some ⟨w.heap.size+1,0,none⟩),.int .i64 0,.pointer (some ⟨w1.heap.size,0,none⟩),.bool s,.pointer (some ⟨w3.heap.size,0,none⟩),undef,.pointer (some ⟨p,0,none⟩),.agg #[.bool s,.slice a1 n1 c1,.slice a2 n2 c2,.bool t,.slice a3 n3 c3,.slice a4 n4 c4],.agg #[.slice B1 K1 D1,.slice B2 K2 D2,.slice B3 K3 D3,.slice B4 K4 D4,.slice B5 K5 D5,.bool br],.pointer (some ⟨w.heap.size,0,none⟩),.pointer (some ⟨w.heap.size,0,none⟩),.bool s,.agg #[.slice B1 K1 D1,.slice B2 K2 D2,.slice B3 K3 D3,.slice B4 K4 D4,.slice B5 K5 D5,.bool br],.pointer (some ⟨p,0,none⟩),.bool false,undef,undef,undef,undef,undef,undef,undef,undef,undef,undef,undef,undef,undef,undef,undef,.pointer (some ⟨p,0,none⟩),.pointer (some ⟨w1.heap.size,0,none⟩),.agg #[.slice B1 K1 D1],.pointer (some ⟨w1.heap.size,1,none⟩),.agg #[.slice B2 K2 D2],.agg #[.slice yA3 yN3 yC3],.pointer (some ⟨p,0,none⟩),.pointer (some ⟨w1.heap.size,2,none⟩),.agg #[.slice B3 K3 D3],.pointer (some ⟨w1.heap.size,3,none⟩),.agg #[.slice B4 K4 D4],.int .i64 (-1),.bool true,.pointer (some ⟨p,0,none⟩),.agg #[.slice yA3 yN3 yC3],.agg #[.slice x5_A2 x5_N2 x5_C2],.agg #[.slice x5_A3 x5_N3 x5_C3],v0,v1,v2,v3,v4,v5,v6,v7,v8,v9,v10,undef,undef,undef,undef,undef,undef,undef,undef,undef,undef,undef,undef,undef,undef,undef,undef,undef,undef,undef,undef,undef,undef,undef],defers:=[] }∧ApaHL6R w p s t a1 a2 a3 a4 n1 n2 n3 n4 c1 c2 c3 c4 B1 B2 B3 B4 B5 K1 K2 K3 K4 K5 D1 D2 D3 D4 D5 V1 V2 V3 V4 V5 w1 br yA3 yN3 yC3 w3 x5_A2 x5_N2 x5_C2 x5_A3 x5_N3 x5_C3 x5_M3 x5_E3 S9 b0 b1 b2 b3 b4 b5 b6 b7 b8 b9 b10 b11 v0 v1 v2 v3 v4 v5 v6 v7 v8 v9 v10 A6 N6 C6 M6 E6 A9 N9 C9 M9 E9 bs9 os9 w'
structure ApaHL5S where
 (b0 b1 b2 b3 b4:Bool)
 (v0 v1 v2 v3:Value)
 (A2:Option Addr)
 (N2 C2:Nat)
 (A3:Option Addr)
 (N3 C3:Nat)
 (M3:Nat)
 (E3:Int)
 bs9:List En
 os9:Os
structure ApaHL5R (w:World) (p:Nat) (s t:Bool) (a1 a2 a3 a4:Option Addr) (n1 n2 n3 n4 c1 c2 c3 c4:Nat) (B1 B2 B3 B4 B5:Option Addr) (K1 K2 K3 K4 K5 D1 D2 D3 D4 D5 V1 V2 V3 V4 V5:Nat) (w1:World) (br:Bool) (yA3:Option Addr) (yN3 yC3 yM3:Nat) (yE3:Int) (w3:World) (S9:Nat) (b0 b1 b2 b3 b4:Bool) (v0 v1 v2 v3:Value) (A2:Option Addr) (N2 C2:Nat) (A3:Option Addr) (N3 C3:Nat) (M3:Nat) (E3:Int) (bs9:List En) (os9:Os) (w':World):Prop where
 hc:Rc w S9 [⟨w1.heap.size,#[.slice B1 K1 D1,.slice B2 K2 D2,.slice B3 K3 D3,.slice B4 K4 D4,.slice B5 K5 D5,.bool br],111⟩,⟨w.heap.size+1,#[.bool false,.slice none 0 0,.slice none 0 0],29⟩] [] [(yA3,yN3,yC3,yM3),(B5,K5,D5,V5),(B4,K4,D4,V4),(B3,K3,D3,V3),(B2,K2,D2,V2),(B1,K1,D1,V1)] (some ((p),(cond b3 E3 yE3))) bs9 os9 w'
 f0:b0 = true→v0 = .pointer (some ⟨p,0,none⟩)
 f1:b1 = true→v1 = .agg #[.slice yA3 yN3 yC3]
 f2:b2 = true→v2 = .agg #[.slice A2 N2 C2]∧(A2,N2,C2,1)∈os9
 f3:b3 = true→v3 = .agg #[.slice A3 N3 C3]∧(A3,N3,C3,M3)∈os9∧Wz yE3 E3 M3 (yM3 - 1) (False)
 o0_0:b4 = false→⟨w3.heap.size,#[.slice yA3 yN3 yC3],27⟩∈bs9
 o0_1:b4 = true→⟨w3.heap.size,#[.slice A3 N3 C3],27⟩∈bs9
 g4_1:b4 = true→b1 = true
 g3_2:b3 = true→b2 = true
 g4_3:b4 = true→b3 = true
 g4_2:b4 = true→b2 = true
def ApaHL5I (w:World) (p:Nat) (s t:Bool) (a1 a2 a3 a4:Option Addr) (n1 n2 n3 n4 c1 c2 c3 c4:Nat) (B1 B2 B3 B4 B5:Option Addr) (K1 K2 K3 K4 K5 D1 D2 D3 D4 D5 V1 V2 V3 V4 V5:Nat) (w1:World) (br:Bool) (yA3:Option Addr) (yN3 yC3 yM3:Nat) (yE3:Int) (w3:World) (S9:Nat) (l:Array Bool) (act:Act) (w':World):ApaHL5S→Prop
 | ⟨b0,b1,b2,b3,b4,v0,v1,v2,v3,A2,N2,C2,A3,N3,C3,M3,E3,bs9,os9⟩=>l = #[b0,b1,b2,b3,b4]∧act = { tmps:=#[.pointer (some ⟨p,0,none⟩),.agg #[.bool s,.slice a1 n1 c1,.slice a2 n2 c2,.bool t,.slice a3 n3 c3,.slice a4 n4 c4],undef,.pointer (some ⟨w.heap.size,0,none⟩),.pointer (some ⟨w.heap.size+1,0,none⟩),.int .i64 0,.pointer (some ⟨w1.heap.size,0,none⟩),.bool s,.pointer (some ⟨w3.heap.size,0,none⟩),undef,.pointer (some ⟨p,0,none⟩),.agg #[.bool s,.slice a1 n1 c1,.slice a2 n2 c2,.bool t,.slice a3 n3 c3,.slice a4 n4 c4],.agg #[.slice B1 K1 D1,.slice B2 K2 D2,.slice B3 K3 D3,.slice B4 K4 D4,.slice B5 K5 D5,.bool br],.pointer (some ⟨w.heap.size,0,none⟩),.pointer (some ⟨w.heap.size,0,none⟩),.bool s,.agg #[.slice B1 K1 D1,.slice B2 K2 D2,.slice B3 K3 D3,.slice B4 K4 D4,.slice B5 K5 D5,.bool br],.pointer (some ⟨p,0,none⟩),.bool false,undef,undef,undef,undef,undef,undef,undef,undef,undef,undef,undef,undef,undef,undef,undef,.pointer (some ⟨p,0,none⟩),.pointer (some ⟨w1.heap.size,0,none⟩),.agg #[.slice B1 K1 D1],.pointer (some ⟨w1.heap.size,1,none⟩),.agg #[.slice B2 K2 D2],.agg #[.slice yA3 yN3 yC3],.pointer (some ⟨p,0,none⟩),.pointer (some ⟨w1.heap.size,2,none⟩),.agg #[.slice B3 K3 D3],.pointer (some ⟨w1.heap.size,3,none⟩),.agg #[.slice B4 K4 D4],.int .i64 (-1),.bool true,v0,v1,v2,v3,undef,undef,undef,undef,undef,undef,undef,undef,undef,undef,undef,undef,undef,undef,undef,undef,undef,undef,undef,undef,undef,undef,undef,undef,undef,undef,undef,undef,undef,undef,undef,undef,undef,undef],defers:=[] }∧ApaHL5R w p s t a1 a2 a3 a4 n1 n2 n3 n4 c1 c2 c3 c4 B1 B2 B3 B4 B5 K1 K2 K3 K4 K5 D1 D2 D3 D4 D5 V1 V2 V3 V4 V5 w1 br yA3 yN3 yC3 yM3 yE3 w3 S9 b0 b1 b2 b3 b4 v0 v1 v2 v3 A2 N2 C2 A3 N3 C3 M3 E3 bs9 os9 w'
structure ApaHG5S where
 (b0 b1 b2 b3 b4 b5 b6 b7 b8 b9 b10 b11 b12 b13 b14:Bool)
 (v0 v1 v2 v3 v4 v5 v6 v7 v8 v9 v10 v11 v12 v13:Value)
 (A5:Option Addr)
 (N5 C5:Nat)
 (M5:Nat)
 (E5:Int)
 (A11:Option Addr)
 (N11 C11:Nat)
 (M11:Nat)
 (E11:Int)
 (A12:Option Addr)
 (N12 C12:Nat)
 (M12:Nat)
 (E12:Int)
 bs9:List En
 os9:Os
structure ApaHG5R (w:World) (p:Nat) (s t:Bool) (a1 a2 a3 a4:Option Addr) (n1 n2 n3 n4 c1 c2 c3 c4:Nat) (B1 B2 B3 B4 B5:Option Addr) (K1 K2 K3 K4 K5 D1 D2 D3 D4 D5 V1 V2 V3 V4 V5:Nat) (w1:World) (br:Bool) (yA3:Option Addr) (yN3 yC3 yM3:Nat) (yE3:Int) (w3:World) (r0:Int) (S9:Nat) (b0 b1 b2 b3 b4 b5 b6 b7 b8 b9 b10 b11 b12 b13 b14:Bool) (v0 v1 v2 v3 v4 v5 v6 v7 v8 v9 v10 v11 v12 v13:Value) (A5:Option Addr) (N5 C5:Nat) (M5:Nat) (E5:Int) (A11:Option Addr) (N11 C11:Nat) (M11:Nat) (E11:Int) (A12:Option Addr) (N12 C12:Nat) (M12:Nat) (E12:Int) (bs9:List En) (os9:Os) (w':World):Prop where
 hc:Rc w S9 [⟨w3.heap.size,#[.slice yA3 yN3 yC3],27⟩,⟨w1.heap.size,#[.slice B1 K1 D1,.slice B2 K2 D2,.slice B3 K3 D3,.slice B4 K4 D4,.slice B5 K5 D5,.bool br],111⟩,⟨w.heap.size+1,#[.bool false,.slice none 0 0,.slice none 0 0],29⟩] [] [(yA3,yN3,yC3,yM3),(B5,K5,D5,V5),(B4,K4,D4,V4),(B3,K3,D3,V3),(B2,K2,D2,V2),(B1,K1,D1,V1)] (some ((p),(cond b12 E12 (cond b11 E11 (cond b5 E5 yE3))))) bs9 os9 w'
 f0:b0 = true→v0 = .pointer (some ⟨p,0,none⟩)
 f1:b1 = true→v1 = .pointer (some ⟨p,0,none⟩)
 f2:b2 = true→v2 = .agg #[.slice yA3 yN3 yC3]
 f3:b3 = true→v3 = .pointer (some ⟨w1.heap.size,4,none⟩)
 f4:b4 = true→v4 = .agg #[.slice B5 K5 D5]
 f5:b5 = true→v5 = .agg #[.slice A5 N5 C5]∧(A5,N5,C5,M5)∈os9∧Wz yE3 E5 M5 (yM3 * V5) (Over (yM3 * V5))
 f6:b6 = true→v6 = .pointer (some ⟨p,0,none⟩)
 f7:b7 = true→v7 = .pointer (some ⟨w1.heap.size,2,none⟩)
 f8:b8 = true→v8 = .agg #[.slice B3 K3 D3]
 f9:b9 = true→v9 = .pointer (some ⟨w1.heap.size,3,none⟩)
 f10:b10 = true→v10 = .agg #[.slice B4 K4 D4]
 f11:b11 = true→v11 = .agg #[.slice A11 N11 C11]∧(A11,N11,C11,M11)∈os9∧Wz E5 E11 M11 (V3 - V4) (False)
 f12:b12 = true→v12 = .agg #[.slice A12 N12 C12]∧(A12,N12,C12,M12)∈os9∧Wz E11 E12 M12 (M5+M11) (Over (M5+M11))
 f13:b13 = true→AlV bs9 S9 v13 27
 f14:b14 = true→StV bs9 S9 v13 v12 27
 g11_5:b11 = true→b5 = true
 g12_5:b12 = true→b5 = true
 g12_11:b12 = true→b11 = true
 g14_13:b14 = true→b13 = true
 g14_12:b14 = true→b12 = true
 g14_5:b14 = true→b5 = true
 g14_11:b14 = true→b11 = true
def ApaHG5I (w:World) (p:Nat) (s t:Bool) (a1 a2 a3 a4:Option Addr) (n1 n2 n3 n4 c1 c2 c3 c4:Nat) (B1 B2 B3 B4 B5:Option Addr) (K1 K2 K3 K4 K5 D1 D2 D3 D4 D5 V1 V2 V3 V4 V5:Nat) (w1:World) (br:Bool) (yA3:Option Addr) (yN3 yC3 yM3:Nat) (yE3:Int) (w3:World) (r0:Int) (S9:Nat) (l:Array Bool) (act:Act) (w':World):ApaHG5S→Prop
 | ⟨b0,b1,b2,b3,b4,b5,b6,b7,b8,b9,b10,b11,b12,b13,b14,v0,v1,v2,v3,v4,v5,v6,v7,v8,v9,v10,v11,v12,v13,A5,N5,C5,M5,E5,A11,N11,C11,M11,E11,A12,N12,C12,M12,E12,bs9,os9⟩=>l = #[b0,b1,b2,b3,b4,b5,b6,b7,b8,b9,b10,b11,b12,b13,b14]∧act = { tmps:=#[.pointer (some ⟨p,0,none⟩),.agg #[.bool s,.slice a1 n1 c1,.slice a2 n2 c2,.bool t,.slice a3 n3 c3,.slice a4 n4 c4],undef,.pointer (some ⟨w.heap.size,0,none⟩),.pointer (some ⟨w.heap.size+1,0,none⟩),.int .i64 0,.pointer (some ⟨w1.heap.size,0,none⟩),.bool s,.pointer (some ⟨w3.heap.size,0,none⟩),v13,.pointer (some ⟨p,0,none⟩),.agg #[.bool s,.slice a1 n1 c1,.slice a2 n2 c2,.bool t,.slice a3 n3 c3,.slice a4 n4 c4],.agg #[.slice B1 K1 D1,.slice B2 K2 D2,.slice B3 K3 D3,.slice B4 K4 D4,.slice B5 K5 D5,.bool br],.pointer (some ⟨w.heap.size,0,none⟩),.pointer (some ⟨w.heap.size,0,none⟩),.bool s,.agg #[.slice B1 K1 D1,.slice B2 K2 D2,.slice B3 K3 D3,.slice B4 K4 D4,.slice B5 K5 D5,.bool br],.pointer (some ⟨p,0,none⟩),.bool false,undef,undef,undef,undef,undef,undef,undef,undef,undef,undef,undef,undef,undef,undef,undef,.pointer (some ⟨p,0,none⟩),.pointer (some ⟨w1.heap.size,0,none⟩),.agg #[.slice B1 K1 D1],.pointer (some ⟨w1.heap.size,1,none⟩),.agg #[.slice B2 K2 D2],.agg #[.slice yA3 yN3 yC3],.pointer (some ⟨p,0,none⟩),.pointer (some ⟨w1.heap.size,2,none⟩),.agg #[.slice B3 K3 D3],.pointer (some ⟨w1.heap.size,3,none⟩),.agg #[.slice B4 K4 D4],.int .i64 r0,.bool (decide (r0 < 0)),undef,undef,undef,undef,undef,undef,undef,undef,undef,undef,undef,undef,undef,undef,undef,undef,undef,v0,v1,v2,v3,v4,v5,v6,v7,v8,v9,v10,v11,v12,undef,undef,undef,undef,undef,undef,undef,undef],defers:=[] }∧ApaHG5R w p s t a1 a2 a3 a4 n1 n2 n3 n4 c1 c2 c3 c4 B1 B2 B3 B4 B5 K1 K2 K3 K4 K5 D1 D2 D3 D4 D5 V1 V2 V3 V4 V5 w1 br yA3 yN3 yC3 yM3 yE3 w3 r0 S9 b0 b1 b2 b3 b4 b5 b6 b7 b8 b9 b10 b11 b12 b13 b14 v0 v1 v2 v3 v4 v5 v6 v7 v8 v9 v10 v11 v12 v13 A5 N5 C5 M5 E5 A11 N11 C11 M11 E11 A12 N12 C12 M12 E12 bs9 os9 w'
structure ApaLL7S where
 (b0 b1 b2 b3 b4 b5 b6 b7 b8 b9 b10 b11 b12 b13 b14:Bool)
 (v0 v1 v2 v3 v4 v5 v6 v7 v8 v9 v10 v11 v12 v13:Value)
 (A5:Option Addr)
 (N5 C5:Nat)
 (M5:Nat)
 (E5:Int)
 (A11:Option Addr)
 (N11 C11:Nat)
 (M11:Nat)
 (E11:Int)
 (A12:Option Addr)
 (N12 C12:Nat)
 (M12:Nat)
 (E12:Int)
 bs9:List En
 os9:Os
structure ApaLL7R (w:World) (p:Nat) (s t:Bool) (a1 a2 a3 a4:Option Addr) (n1 n2 n3 n4 c1 c2 c3 c4:Nat) (B1 B2 B3 B4 B5:Option Addr) (K1 K2 K3 K4 K5 D1 D2 D3 D4 D5 V1 V2 V5:Nat) (w1:World) (br:Bool) (yA3:Option Addr) (yN3 yC3:Nat) (w3:World) (x5_A2:Option Addr) (x5_N2:Nat) (x5_C2:Nat) (x5_A3:Option Addr) (x5_N3:Nat) (x5_C3:Nat) (x5_M3:Nat) (x6_A6:Option Addr) (x6_N6:Nat) (x6_C6:Nat) (x6_A9:Option Addr) (x6_N9:Nat) (x6_C9:Nat) (x6_M9:Nat) (x6_E9:Int) (S9:Nat) (b0 b1 b2 b3 b4 b5 b6 b7 b8 b9 b10 b11 b12 b13 b14:Bool) (v0 v1 v2 v3 v4 v5 v6 v7 v8 v9 v10 v11 v12 v13:Value) (A5:Option Addr) (N5 C5:Nat) (M5:Nat) (E5:Int) (A11:Option Addr) (N11 C11:Nat) (M11:Nat) (E11:Int) (A12:Option Addr) (N12 C12:Nat) (M12:Nat) (E12:Int) (bs9:List En) (os9:Os) (w':World):Prop where
 hc:Rc w S9 [⟨w1.heap.size,#[.slice B2 K2 D2,.slice B1 K1 D1,.slice x6_A9 x6_N9 x6_C9,.slice none 0 0,.slice B5 K5 D5,.bool br],111⟩,⟨w3.heap.size,#[.slice x5_A3 x5_N3 x5_C3],27⟩,⟨w.heap.size+1,#[.bool false,.slice none 0 0,.slice none 0 0],29⟩] [] [(x6_A9,x6_N9,x6_C9,x6_M9),(x5_A3,x5_N3,x5_C3,x5_M3),(B5,K5,D5,V5),(B2,K2,D2,V2),(B1,K1,D1,V1)] (some ((p),(cond b12 E12 (cond b11 E11 (cond b5 E5 x6_E9))))) bs9 os9 w'
 f0:b0 = true→v0 = .pointer (some ⟨p,0,none⟩)
 f1:b1 = true→v1 = .pointer (some ⟨p,0,none⟩)
 f2:b2 = true→v2 = .agg #[.slice x5_A3 x5_N3 x5_C3]
 f3:b3 = true→v3 = .pointer (some ⟨w1.heap.size,4,none⟩)
 f4:b4 = true→v4 = .agg #[.slice B5 K5 D5]
 f5:b5 = true→v5 = .agg #[.slice A5 N5 C5]∧(A5,N5,C5,M5)∈os9∧Wz x6_E9 E5 M5 (x5_M3 * V5) (Over (x5_M3 * V5))
 f6:b6 = true→v6 = .pointer (some ⟨p,0,none⟩)
 f7:b7 = true→v7 = .pointer (some ⟨w1.heap.size,2,none⟩)
 f8:b8 = true→v8 = .agg #[.slice x6_A9 x6_N9 x6_C9]
 f9:b9 = true→v9 = .pointer (some ⟨w1.heap.size,3,none⟩)
 f10:b10 = true→v10 = .agg #[.slice none 0 0]
 f11:b11 = true→v11 = .agg #[.slice A11 N11 C11]∧(A11,N11,C11,M11)∈os9∧Wz E5 E11 M11 (x6_M9 - 0) (False)
 f12:b12 = true→v12 = .agg #[.slice A12 N12 C12]∧(A12,N12,C12,M12)∈os9∧Wz E11 E12 M12 (M5+M11) (Over (M5+M11))
 f13:b13 = true→AlV bs9 S9 v13 27
 f14:b14 = true→StV bs9 S9 v13 v12 27
 g11_5:b11 = true→b5 = true
 g12_5:b12 = true→b5 = true
 g12_11:b12 = true→b11 = true
 g14_13:b14 = true→b13 = true
 g14_12:b14 = true→b12 = true
 g14_5:b14 = true→b5 = true
 g14_11:b14 = true→b11 = true
def ApaLL7I (w:World) (p:Nat) (s t:Bool) (a1 a2 a3 a4:Option Addr) (n1 n2 n3 n4 c1 c2 c3 c4:Nat) (B1 B2 B3 B4 B5:Option Addr) (K1 K2 K3 K4 K5 D1 D2 D3 D4 D5 V1 V2 V5:Nat) (w1:World) (br:Bool) (yA3:Option Addr) (yN3 yC3:Nat) (w3:World) (x5_A2:Option Addr) (x5_N2:Nat) (x5_C2:Nat) (x5_A3:Option Addr) (x5_N3:Nat) (x5_C3:Nat) (x5_M3:Nat) (x6_A6:Option Addr) (x6_N6:Nat) (x6_C6:Nat) (x6_A9:Option Addr) (x6_N9:Nat) (x6_C9:Nat) (x6_M9:Nat) (x6_E9:Int) (S9:Nat) (l:Array Bool) (act:Act) (w':World):ApaLL7S→Prop
 | ⟨b0,b1,b2,b3,b4,b5,b6,b7,b8,b9,b10,b11,b12,b13,b14,v0,v1,v2,v3,v4,v5,v6,v7,v8,v9,v10,v11,v12,v13,A5,N5,C5,M5,E5,A11,N11,C11,M11,E11,A12,N12,C12,M12,E12,bs9,os9⟩=>l = #[b0,b1,b2,b3,b4,b5,b6,b7,b8,b9,b10,b11,b12,b13,b14]∧act = { tmps:=#[.pointer (some ⟨p,0,none⟩),.agg #[.bool s,.slice a1 n1 c1,.slice a2 n2 c2,.bool t,.slice a3 n3 c3,.slice a4 n4 c4],undef,.pointer (some ⟨w.heap.size,0,none⟩),.pointer (some ⟨w.heap.size+1,0,none⟩),.int .i64 0,.pointer (some ⟨w1.heap.size,0,none⟩),.bool t,.pointer (some ⟨w3.heap.size,0,none⟩),v13,.pointer (some ⟨p,0,none⟩),.agg #[.bool s,.slice a1 n1 c1,.slice a2 n2 c2,.bool t,.slice a3 n3 c3,.slice a4 n4 c4],.agg #[.slice B1 K1 D1,.slice B2 K2 D2,.slice B3 K3 D3,.slice B4 K4 D4,.slice B5 K5 D5,.bool br],.pointer (some ⟨w.heap.size,0,none⟩),.pointer (some ⟨w.heap.size,0,none⟩),.bool s,.agg #[.slice B1 K1 D1,.slice B2 K2 D2,.slice B3 K3 D3,.slice B4 K4 D4,.slice B5 K5 D5,.bool br],.pointer (some ⟨p,0,none⟩),.bool true,.pointer (some ⟨w.heap.size,3,none⟩),.pointer (some ⟨w.heap.size,3,none⟩),.bool t,.pointer (some ⟨w1.heap.size,1,none⟩),.agg #[.slice B2 K2 D2],.pointer (some ⟨w1.heap.size,0,none⟩),.agg #[.slice B1 K1 D1],.pointer (some ⟨w1.heap.size,0,none⟩),.pointer (some ⟨w1.heap.size,1,none⟩),.pointer (some ⟨w1.heap.size,3,none⟩),.agg #[.slice B4 K4 D4],.pointer (some ⟨w1.heap.size,2,none⟩),.agg #[.slice B3 K3 D3],.pointer (some ⟨w1.heap.size,2,none⟩),.pointer (some ⟨w1.heap.size,3,none⟩),.pointer (some ⟨p,0,none⟩),.pointer (some ⟨w1.heap.size,0,none⟩),.agg #[.slice B2 K2 D2],.pointer (some ⟨w1.heap.size,1,none⟩),.agg #[.slice B1 K1 D1],.agg #[.slice yA3 yN3 yC3],.pointer (some ⟨p,0,none⟩),.pointer (some ⟨w1.heap.size,2,none⟩),.agg #[.slice B4 K4 D4],.pointer (some ⟨w1.heap.size,3,none⟩),.agg #[.slice B3 K3 D3],.int .i64 (-1),.bool true,.pointer (some ⟨p,0,none⟩),.agg #[.slice yA3 yN3 yC3],.agg #[.slice x5_A2 x5_N2 x5_C2],.agg #[.slice x5_A3 x5_N3 x5_C3],.pointer (some ⟨p,0,none⟩),.pointer (some ⟨p,0,none⟩),.pointer (some ⟨w1.heap.size,4,none⟩),.agg #[.slice B5 K5 D5],.pointer (some ⟨w1.heap.size,3,none⟩),.agg #[.slice B3 K3 D3],.agg #[.slice x6_A6 x6_N6 x6_C6],.pointer (some ⟨w1.heap.size,2,none⟩),.agg #[.slice B4 K4 D4],.agg #[.slice x6_A9 x6_N9 x6_C9],.pointer (some ⟨w1.heap.size,2,none⟩),.agg #[.slice none 0 0],.pointer (some ⟨w1.heap.size,3,none⟩),v0,v1,v2,v3,v4,v5,v6,v7,v8,v9,v10,v11,v12,undef,undef,undef,undef,undef,undef,undef,undef],defers:=[] }∧ApaLL7R w p s t a1 a2 a3 a4 n1 n2 n3 n4 c1 c2 c3 c4 B1 B2 B3 B4 B5 K1 K2 K3 K4 K5 D1 D2 D3 D4 D5 V1 V2 V5 w1 br yA3 yN3 yC3 w3 x5_A2 x5_N2 x5_C2 x5_A3 x5_N3 x5_C3 x5_M3 x6_A6 x6_N6 x6_C6 x6_A9 x6_N9 x6_C9 x6_M9 x6_E9 S9 b0 b1 b2 b3 b4 b5 b6 b7 b8 b9 b10 b11 b12 b13 b14 v0 v1 v2 v3 v4 v5 v6 v7 v8 v9 v10 v11 v12 v13 A5 N5 C5 M5 E5 A11 N11 C11 M11 E11 A12 N12 C12 M12 E12 bs9 os9 w'
structure ApaLL6S where
 (b0 b1 b2 b3 b4 b5 b6 b7 b8 b9 b10 b11:Bool)
 (v0 v1 v2 v3 v4 v5 v6 v7 v8 v9 v10:Value)
 (A6:Option Addr)
 (N6 C6:Nat)
 (M6:Nat)
 (E6:Int)
 (A9:Option Addr)
 (N9 C9:Nat)
 (M9:Nat)
 (E9:Int)
 bs9:List En
 os9:Os
structure ApaLL6R (w:World) (p:Nat) (s t:Bool) (a1 a2 a3 a4:Option Addr) (n1 n2 n3 n4 c1 c2 c3 c4:Nat) (B1 B2 B3 B4 B5:Option Addr) (K1 K2 K3 K4 K5 D1 D2 D3 D4 D5 V1 V2 V3 V4 V5:Nat) (w1:World) (br:Bool) (yA3:Option Addr) (yN3 yC3:Nat) (w3:World) (x5_A2:Option Addr) (x5_N2:Nat) (x5_C2:Nat) (x5_A3:Option Addr) (x5_N3:Nat) (x5_C3:Nat) (x5_M3:Nat) (x5_E3:Int) (S9:Nat) (b0 b1 b2 b3 b4 b5 b6 b7 b8 b9 b10 b11:Bool) (v0 v1 v2 v3 v4 v5 v6 v7 v8 v9 v10:Value) (A6:Option Addr) (N6 C6:Nat) (M6:Nat) (E6:Int) (A9:Option Addr) (N9 C9:Nat) (M9:Nat) (E9:Int) (bs9:List En) (os9:Os) (w':World):Prop where
 hc:Rc w S9 [⟨w3.heap.size,#[.slice x5_A3 x5_N3 x5_C3],27⟩,⟨w.heap.size+1,#[.bool false,.slice none 0 0,.slice none 0 0],29⟩] [] [(x5_A3,x5_N3,x5_C3,x5_M3),(B5,K5,D5,V5),(B4,K4,D4,V4),(B3,K3,D3,V3),(B2,K2,D2,V2),(B1,K1,D1,V1)] (some ((p),(cond b9 E9 (cond b6 E6 x5_E3)))) bs9 os9 w'
 f0:b0 = true→v0 = .pointer (some ⟨p,0,none⟩)
 f1:b1 = true→v1 = .pointer (some ⟨p,0,none⟩)
 f2:b2 = true→v2 = .pointer (some ⟨w1.heap.size,4,none⟩)
 f3:b3 = true→v3 = .agg #[.slice B5 K5 D5]
 f4:b4 = true→v4 = .pointer (some ⟨w1.heap.size,3,none⟩)
 f5:b5 = true→v5 = .agg #[.slice B3 K3 D3]
 f6:b6 = true→v6 = .agg #[.slice A6 N6 C6]∧(A6,N6,C6,M6)∈os9∧Wz x5_E3 E6 M6 (V5 - V3) (False)
 f7:b7 = true→v7 = .pointer (some ⟨w1.heap.size,2,none⟩)
 f8:b8 = true→v8 = .agg #[.slice B4 K4 D4]
 f9:b9 = true→v9 = .agg #[.slice A9 N9 C9]∧(A9,N9,C9,M9)∈os9∧Wz E6 E9 M9 (M6+V4) (Over (M6+V4))
 f10:b10 = true→v10 = .pointer (some ⟨w1.heap.size,2,none⟩)
 o0_0:b11 = false→⟨w1.heap.size,#[.slice B2 K2 D2,.slice B1 K1 D1,.slice B4 K4 D4,.slice B3 K3 D3,.slice B5 K5 D5,.bool br],111⟩∈bs9
 o0_1:b11 = true→⟨w1.heap.size,#[.slice B2 K2 D2,.slice B1 K1 D1,.slice A9 N9 C9,.slice B3 K3 D3,.slice B5 K5 D5,.bool br],111⟩∈bs9
 g11_3:b11 = true→b3 = true
 g11_5:b11 = true→b5 = true
 g11_8:b11 = true→b8 = true
 g9_6:b9 = true→b6 = true
 g11_9:b11 = true→b9 = true
 g11_6:b11 = true→b6 = true
def ApaLL6I (w:World) (p:Nat) (s t:Bool) (a1 a2 a3 a4:Option Addr) (n1 n2 n3 n4 c1 c2 c3 c4:Nat) (B1 B2 B3 B4 B5:Option Addr) (K1 K2 K3 K4 K5 D1 D2 D3 D4 D5 V1 V2 V3 V4 V5:Nat) (w1:World) (br:Bool) (yA3:Option Addr) (yN3 yC3:Nat) (w3:World) (x5_A2:Option Addr) (x5_N2:Nat) (x5_C2:Nat) (x5_A3:Option Addr) (x5_N3:Nat) (x5_C3:Nat) (x5_M3:Nat) (x5_E3:Int) (S9:Nat) (l:Array Bool) (act:Act) (w':World):ApaLL6S→Prop
 | ⟨b0,b1,b2,b3,b4,b5,b6,b7,b8,b9,b10,b11,v0,v1,v2,v3,v4,v5,v6,v7,v8,v9,v10,A6,N6,C6,M6,E6,A9,N9,C9,M9,E9,bs9,os9⟩=>l = #[b0,b1,b2,b3,b4,b5,b6,b7,b8,b9,b10,b11]∧act = { tmps:=#[.pointer (some ⟨p,0,none⟩),.agg #[.bool s,.slice a1 n1 c1,.slice a2 n2 c2,.bool t,.slice a3 n3 c3,.slice a4 n4 c4],undef,.pointer (some ⟨w.heap.size,0,none⟩),.pointer (some ⟨w.heap.size+1,0,none⟩),.int .i64 0,.pointer (some ⟨w1.heap.size,0,none⟩),.bool t,.pointer (some ⟨w3.heap.size,0,none⟩),undef,.pointer (some ⟨p,0,none⟩),.agg #[.bool s,.slice a1 n1 c1,.slice a2 n2 c2,.bool t,.slice a3 n3 c3,.slice a4 n4 c4],.agg #[.slice B1 K1 D1,.slice B2 K2 D2,.slice B3 K3 D3,.slice B4 K4 D4,.slice B5 K5 D5,.bool br],.pointer (some ⟨w.heap.size,0,none⟩),.pointer (some ⟨w.heap.size,0,none⟩),.bool s,.agg #[.slice B1 K1 D1,.slice B2 K2 D2,.slice B3 K3 D3,.slice B4 K4 D4,.slice B5 K5 D5,.bool br],.pointer (some ⟨p,0,none⟩),.bool true,.pointer (some ⟨w.heap.size,3,none⟩),.pointer (some ⟨w.heap.size,3,none⟩),.bool t,.pointer (some ⟨w1.heap.size,1,none⟩),.agg #[.slice B2 K2 D2],.pointer (some ⟨w1.heap.size,0,none⟩),.agg #[.slice B1 K1 D1],.pointer (some ⟨w1.heap.size,0,none⟩),.pointer (some ⟨w1.heap.size,1,none⟩),.pointer (some ⟨w1.heap.size,3,none⟩),.agg #[.slice B4 K4 D4],.pointer (some ⟨w1.heap.size,2,none⟩),.agg #[.slice B3 K3 D3],.pointer (some ⟨w1.heap.size,2,none⟩),.pointer (some ⟨w1.heap.size,3,none⟩),.pointer (some ⟨p,0,none⟩),.pointer (some ⟨w1.heap.size,0,none⟩),.agg #[.slice B2 K2 D2],.pointer (some ⟨w1.heap.size,1,none⟩),.agg #[.slice B1 K1 D1],.agg #[.slice yA3 yN3 yC3],.pointer (some ⟨p,0,none⟩),.pointer (some ⟨w1.heap.size,2,none⟩),.agg #[.slice B4 K4 D4],.pointer (some ⟨w1.heap.size,3,none⟩),.agg #[.slice B3 K3 D3],.int .i64 (-1),.bool true,.pointer (some ⟨p,0,none⟩),.agg #[.slice yA3 yN3 yC3],.agg #[.slice x5_A2 x5_N2 x5_C2],.agg #[.slice x5_A3 x5_N3 x5_C3],v0,v1,v2,v3,v4,v5,v6,v7,v8,v9,v10,undef,undef,undef,undef,undef,undef,undef,undef,undef,undef,undef,undef,undef,undef,undef,undef,undef,undef,undef,undef,undef,undef,undef],defers:=[] }∧ApaLL6R w p s t a1 a2 a3 a4 n1 n2 n3 n4 c1 c2 c3 c4 B1 B2 B3 B4 B5 K1 K2 K3 K4 K5 D1 D2 D3 D4 D5 V1 V2 V3 V4 V5 w1 br yA3 yN3 yC3 w3 x5_A2 x5_N2 x5_C2 x5_A3 x5_N3 x5_C3 x5_M3 x5_E3 S9 b0 b1 b2 b3 b4 b5 b6 b7 b8 b9 b10 b11 v0 v1 v2 v3 v4 v5 v6 v7 v8 v9 v10 A6 N6 C6 M6 E6 A9 N9 C9 M9 E9 bs9 os9 w'
structure ApaLL5S where
 (b0 b1 b2 b3 b4:Bool)
 (v0 v1 v2 v3:Value)
 (A2:Option Addr)
 (N2 C2:Nat)
 (A3:Option Addr)
 (N3 C3:Nat)
 (M3:Nat)
 (E3:Int)
 bs9:List En
 os9:Os
structure ApaLL5R (w:World) (p:Nat) (s t:Bool) (a1 a2 a3 a4:Option Addr) (n1 n2 n3 n4 c1 c2 c3 c4:Nat) (B1 B2 B3 B4 B5:Option Addr) (K1 K2 K3 K4 K5 D1 D2 D3 D4 D5 V1 V2 V3 V4 V5:Nat) (w1:World) (br:Bool) (yA3:Option Addr) (yN3 yC3 yM3:Nat) (yE3:Int) (w3:World) (S9:Nat) (b0 b1 b2 b3 b4:Bool) (v0 v1 v2 v3:Value) (A2:Option Addr) (N2 C2:Nat) (A3:Option Addr) (N3 C3:Nat) (M3:Nat) (E3:Int) (bs9:List En) (os9:Os) (w':World):Prop where
 hc:Rc w S9 [⟨w1.heap.size,#[.slice B2 K2 D2,.slice B1 K1 D1,.slice B4 K4 D4,.slice B3 K3 D3,.slice B5 K5 D5,.bool br],111⟩,⟨w.heap.size+1,#[.bool false,.slice none 0 0,.slice none 0 0],29⟩] [] [(yA3,yN3,yC3,yM3),(B5,K5,D5,V5),(B4,K4,D4,V4),(B3,K3,D3,V3),(B2,K2,D2,V2),(B1,K1,D1,V1)] (some ((p),(cond b3 E3 yE3))) bs9 os9 w'
 f0:b0 = true→v0 = .pointer (some ⟨p,0,none⟩)
 f1:b1 = true→v1 = .agg #[.slice yA3 yN3 yC3]
 f2:b2 = true→v2 = .agg #[.slice A2 N2 C2]∧(A2,N2,C2,1)∈os9
 f3:b3 = true→v3 = .agg #[.slice A3 N3 C3]∧(A3,N3,C3,M3)∈os9∧Wz yE3 E3 M3 (yM3 - 1) (False)
 o0_0:b4 = false→⟨w3.heap.size,#[.slice yA3 yN3 yC3],27⟩∈bs9
 o0_1:b4 = true→⟨w3.heap.size,#[.slice A3 N3 C3],27⟩∈bs9
 g4_1:b4 = true→b1 = true
 g3_2:b3 = true→b2 = true
 g4_3:b4 = true→b3 = true
 g4_2:b4 = true→b2 = true
def ApaLL5I (w:World) (p:Nat) (s t:Bool) (a1 a2 a3 a4:Option Addr) (n1 n2 n3 n4 c1 c2 c3 c4:Nat) (B1 B2 B3 B4 B5:Option Addr) (K1 K2 K3 K4 K5 D1 D2 D3 D4 D5 V1 V2 V3 V4 V5:Nat) (w1:World) (br:Bool) (yA3:Option Addr) (yN3 yC3 yM3:Nat) (yE3:Int) (w3:World) (S9:Nat) (l:Array Bool) (act:Act) (w':World):ApaLL5S→Prop
 | ⟨b0,b1,b2,b3,b4,v0,v1,v2,v3,A2,N2,C2,A3,N3,C3,M3,E3,bs9,os9⟩=>l = #[b0,b1,b2,b3,b4]∧act = { tmps:=#[.pointer (some ⟨p,0,none⟩),.agg #[.bool s,.slice a1 n1 c1,.slice a2 n2 c2,.bool t,.slice a3 n3 c3,.slice a4 n4 c4],undef,.pointer (some ⟨w.heap.size,0,none⟩),.pointer (some ⟨w.heap.size+1,0,none⟩),.int .i64 0,.pointer (some ⟨w1.heap.size,0,none⟩),.bool t,.pointer (some ⟨w3.heap.size,0,none⟩),undef,.pointer (some ⟨p,0,none⟩),.agg #[.bool s,.slice a1 n1 c1,.slice a2 n2 c2,.bool t,.slice a3 n3 c3,.slice a4 n4 c4],.agg #[.slice B1 K1 D1,.slice B2 K2 D2,.slice B3 K3 D3,.slice B4 K4 D4,.slice B5 K5 D5,.bool br],.pointer (some ⟨w.heap.size,0,none⟩),.pointer (some ⟨w.heap.size,0,none⟩),.bool s,.agg #[.slice B1 K1 D1,.slice B2 K2 D2,.slice B3 K3 D3,.slice B4 K4 D4,.slice B5 K5 D5,.bool br],.pointer (some ⟨p,0,none⟩),.bool true,.pointer (some ⟨w.heap.size,3,none⟩),.pointer (some ⟨w.heap.size,3,none⟩),.bool t,.pointer (some ⟨w1.heap.size,1,none⟩),.agg #[.slice B2 K2 D2],.pointer (some ⟨w1.heap.size,0,none⟩),.agg #[.slice B1 K1 D1],.pointer (some ⟨w1.heap.size,0,none⟩),.pointer (some ⟨w1.heap.size,1,none⟩),.pointer (some ⟨w1.heap.size,3,none⟩),.agg #[.slice B4 K4 D4],.pointer (some ⟨w1.heap.size,2,none⟩),.agg #[.slice B3 K3 D3],.pointer (some ⟨w1.heap.size,2,none⟩),.pointer (some ⟨w1.heap.size,3,none⟩),.pointer (some ⟨p,0,none⟩),.pointer (some ⟨w1.heap.size,0,none⟩),.agg #[.slice B2 K2 D2],.pointer (some ⟨w1.heap.size,1,none⟩),.agg #[.slice B1 K1 D1],.agg #[.slice yA3 yN3 yC3],.pointer (some ⟨p,0,none⟩),.pointer (some ⟨w1.heap.size,2,none⟩),.agg #[.slice B4 K4 D4],.pointer (some ⟨w1.heap.size,3,none⟩),.agg #[.slice B3 K3 D3],.int .i64 (-1),.bool true,v0,v1,v2,v3,undef,undef,undef,undef,undef,undef,undef,undef,undef,undef,undef,undef,undef,undef,undef,undef,undef,undef,undef,undef,undef,undef,undef,undef,undef,undef,undef,undef,undef,undef,undef,undef,undef,undef],defers:=[] }∧ApaLL5R w p s t a1 a2 a3 a4 n1 n2 n3 n4 c1 c2 c3 c4 B1 B2 B3 B4 B5 K1 K2 K3 K4 K5 D1 D2 D3 D4 D5 V1 V2 V3 V4 V5 w1 br yA3 yN3 yC3 yM3 yE3 w3 S9 b0 b1 b2 b3 b4 v0 v1 v2 v3 A2 N2 C2 A3 N3 C3 M3 E3 bs9 os9 w'
structure ApaLG5S where
 (b0 b1 b2 b3 b4 b5 b6 b7 b8 b9 b10 b11 b12 b13 b14:Bool)
 (v0 v1 v2 v3 v4 v5 v6 v7 v8 v9 v10 v11 v12 v13:Value)
 (A5:Option Addr)
 (N5 C5:Nat)
 (M5:Nat)
 (E5:Int)
 (A11:Option Addr)
 (N11 C11:Nat)
 (M11:Nat)
 (E11:Int)
 (A12:Option Addr)
 (N12 C12:Nat)
 (M12:Nat)
 (E12:Int)
 bs9:List En
 os9:Os
structure ApaLG5R (w:World) (p:Nat) (s t:Bool) (a1 a2 a3 a4:Option Addr) (n1 n2 n3 n4 c1 c2 c3 c4:Nat) (B1 B2 B3 B4 B5:Option Addr) (K1 K2 K3 K4 K5 D1 D2 D3 D4 D5 V1 V2 V3 V4 V5:Nat) (w1:World) (br:Bool) (yA3:Option Addr) (yN3 yC3 yM3:Nat) (yE3:Int) (w3:World) (r0:Int) (S9:Nat) (b0 b1 b2 b3 b4 b5 b6 b7 b8 b9 b10 b11 b12 b13 b14:Bool) (v0 v1 v2 v3 v4 v5 v6 v7 v8 v9 v10 v11 v12 v13:Value) (A5:Option Addr) (N5 C5:Nat) (M5:Nat) (E5:Int) (A11:Option Addr) (N11 C11:Nat) (M11:Nat) (E11:Int) (A12:Option Addr) (N12 C12:Nat) (M12:Nat) (E12:Int) (bs9:List En) (os9:Os) (w':World):Prop where
 hc:Rc w S9 [⟨w3.heap.size,#[.slice yA3 yN3 yC3],27⟩,⟨w1.heap.size,#[.slice B2 K2 D2,.slice B1 K1 D1,.slice B4 K4 D4,.slice B3 K3 D3,.slice B5 K5 D5,.bool br],111⟩,⟨w.heap.size+1,#[.bool false,.slice none 0 0,.slice none 0 0],29⟩] [] [(yA3,yN3,yC3,yM3),(B5,K5,D5,V5),(B4,K4,D4,V4),(B3,K3,D3,V3),(B2,K2,D2,V2),(B1,K1,D1,V1)] (some ((p),(cond b12 E12 (cond b11 E11 (cond b5 E5 yE3))))) bs9 os9 w'
 f0:b0 = true→v0 = .pointer (some ⟨p,0,none⟩)
 f1:b1 = true→v1 = .pointer (some ⟨p,0,none⟩)
 f2:b2 = true→v2 = .agg #[.slice yA3 yN3 yC3]
 f3:b3 = true→v3 = .pointer (some ⟨w1.heap.size,4,none⟩)
 f4:b4 = true→v4 = .agg #[.slice B5 K5 D5]
 f5:b5 = true→v5 = .agg #[.slice A5 N5 C5]∧(A5,N5,C5,M5)∈os9∧Wz yE3 E5 M5 (yM3 * V5) (Over (yM3 * V5))
 f6:b6 = true→v6 = .pointer (some ⟨p,0,none⟩)
 f7:b7 = true→v7 = .pointer (some ⟨w1.heap.size,2,none⟩)
 f8:b8 = true→v8 = .agg #[.slice B4 K4 D4]
 f9:b9 = true→v9 = .pointer (some ⟨w1.heap.size,3,none⟩)
 f10:b10 = true→v10 = .agg #[.slice B3 K3 D3]
 f11:b11 = true→v11 = .agg #[.slice A11 N11 C11]∧(A11,N11,C11,M11)∈os9∧Wz E5 E11 M11 (V4 - V3) (False)
 f12:b12 = true→v12 = .agg #[.slice A12 N12 C12]∧(A12,N12,C12,M12)∈os9∧Wz E11 E12 M12 (M5+M11) (Over (M5+M11))
 f13:b13 = true→AlV bs9 S9 v13 27
 f14:b14 = true→StV bs9 S9 v13 v12 27
 g11_5:b11 = true→b5 = true
 g12_5:b12 = true→b5 = true
 g12_11:b12 = true→b11 = true
 g14_13:b14 = true→b13 = true
 g14_12:b14 = true→b12 = true
 g14_5:b14 = true→b5 = true
 g14_11:b14 = true→b11 = true
def ApaLG5I (w:World) (p:Nat) (s t:Bool) (a1 a2 a3 a4:Option Addr) (n1 n2 n3 n4 c1 c2 c3 c4:Nat) (B1 B2 B3 B4 B5:Option Addr) (K1 K2 K3 K4 K5 D1 D2 D3 D4 D5 V1 V2 V3 V4 V5:Nat) (w1:World) (br:Bool) (yA3:Option Addr) (yN3 yC3 yM3:Nat) (yE3:Int) (w3:World) (r0:Int) (S9:Nat) (l:Array Bool) (act:Act) (w':World):ApaLG5S→Prop
 | ⟨b0,b1,b2,b3,b4,b5,b6,b7,b8,b9,b10,b11,b12,b13,b14,v0,v1,v2,v3,v4,v5,v6,v7,v8,v9,v10,v11,v12,v13,A5,N5,C5,M5,E5,A11,N11,C11,M11,E11,A12,N12,C12,M12,E12,bs9,os9⟩=>l = #[b0,b1,b2,b3,b4,b5,b6,b7,b8,b9,b10,b11,b12,b13,b14]∧act = { tmps:=#[.pointer (some ⟨p,0,none⟩),.agg #[.bool s,.slice a1 n1 c1,.slice a2 n2 c2,.bool t,.slice a3 n3 c3,.slice a4 n4 c4],undef,.pointer (some ⟨w.heap.size,0,none⟩),.pointer (some ⟨w.heap.size+1,0,none⟩),.int .i64 0,.pointer (some ⟨w1.heap.size,0,none⟩),.bool t,.pointer (some ⟨w3.heap.size,0,none⟩),v13,.pointer (some ⟨p,0,none⟩),.agg #[.bool s,.slice a1 n1 c1,.slice a2 n2 c2,.bool t,.slice a3 n3 c3,.slice a4 n4 c4],.agg #[.slice B1 K1 D1,.slice B2 K2 D2,.slice B3 K3 D3,.slice B4 K4 D4,.slice B5 K5 D5,.bool br],.pointer (some ⟨w.heap.size,0,none⟩),.pointer (some ⟨w.heap.size,0,none⟩),.bool s,.agg #[.slice B1 K1 D1,.slice B2 K2 D2,.slice B3 K3 D3,.slice B4 K4 D4,.slice B5 K5 D5,.bool br],.pointer (some ⟨p,0,none⟩),.bool true,.pointer (some ⟨w.heap.size,3,none⟩),.pointer (some ⟨w.heap.size,3,none⟩),.bool t,.pointer (some ⟨w1.heap.size,1,none⟩),.agg #[.slice B2 K2 D2],.pointer (some ⟨w1.heap.size,0,none⟩),.agg #[.slice B1 K1 D1],.pointer (some ⟨w1.heap.size,0,none⟩),.pointer (some ⟨w1.heap.size,1,none⟩),.pointer (some ⟨w1.heap.size,3,none⟩),.agg #[.slice B4 K4 D4],.pointer (some ⟨w1.heap.size,2,none⟩),.agg #[.slice B3 K3 D3],.pointer (some ⟨w1.heap.size,2,none⟩),.pointer (some ⟨w1.heap.size,3,none⟩),.pointer (some ⟨p,0,none⟩),.pointer (some ⟨w1.heap.size,0,none⟩),.agg #[.slice B2 K2 D2],.pointer (some ⟨w1.heap.size,1,none⟩),.agg #[.slice B1 K1 D1],.agg #[.slice yA3 yN3 yC3],.pointer (some ⟨p,0,none⟩),.pointer (some ⟨w1.heap.size,2,none⟩),.agg #[.slice B4 K4 D4],.pointer (some ⟨w1.heap.size,3,none⟩),.agg #[.slice B3 K3 D3],.int .i64 r0,.bool (decide (r0 < 0)),undef,undef,undef,undef,undef,undef,undef,undef,undef,undef,undef,undef,undef,undef,undef,undef,undef,v0,v1,v2,v3,v4,v5,v6,v7,v8,v9,v10,v11,v12,undef,undef,undef,undef,undef,undef,undef,undef],defers:=[] }∧ApaLG5R w p s t a1 a2 a3 a4 n1 n2 n3 n4 c1 c2 c3 c4 B1 B2 B3 B4 B5 K1 K2 K3 K4 K5 D1 D2 D3 D4 D5 V1 V2 V3 V4 V5 w1 br yA3 yN3 yC3 yM3 yE3 w3 r0 S9 b0 b1 b2 b3 b4 b5 b6 b7 b8 b9 b10 b11 b12 b13 b14 v0 v1 v2 v3 v4 v5 v6 v7 v8 v9 v10 v11 v12 v13 A5 N5 C5 M5 E5 A11 N11 C11 M11 E11 A12 N12 C12 M12 E12 bs9 os9 w'
theorem apart_any (p:Nat) (s t:Bool) (a1 a2 a3 a4:Option Addr) (n1 n2 n3 n4 c1 c2 c3 c4 m1 d1 m2 d2:Nat) (w:World) (hk:Wk w p 0) (h1:Num w a1 n1 m1) (h2:Num w a2 n2 d1) (h3:Num w a3 n3 m2) (h4:Num w a4 n4 d2) (hd1:0 < d1) (hd2:0 < d2) (hc1:Nat.gcd m1 d1 = 1) (hc2:Nat.gcd m2 d2 = 1) (hst:(s == t) = false) :
  Calls Tryz.prog 51 #[.pointer (some ⟨p,0,none⟩),.agg #[.bool s,.slice a1 n1 c1,.slice a2 n2 c2,.bool t,.slice a3 n3 c3,.slice a4 n4 c4]] w (fun en w'=>RAns w' w.heap.size en (apSign m1 d1 m2 d2 s t) (Rm.dnum m1 d1 m2 d2) (Rm.sden false m1 d1 m2 d2)∧But p w w'):=by
 have hpl:=hk.lt
 have hS:=Rs.begin_work hk
 replace hS:=hS.num h1
 replace hS:=hS.num h2
 replace hS:=hS.num h3
 replace hS:=hS.num h4
 replace hS:=hS.alloc #[.bool s,.slice a1 n1 c1,.slice a2 n2 c2,.bool t,.slice a3 n3 c3,.slice a4 n4 c4] 52
 try simp only [World.size_alloc] at hS
 replace hS:=hS.alloc #[.bool false,.slice none 0 0,.slice none 0 0] 29
 try simp only [World.size_alloc] at hS
 go_enter Tryz.func51,Tryz.ntmps51
 go_wp2_with fail
 refine (W_splitD hS s t c1 c2 c3 c4 (hS.nm (a1,n1,m1) (by simp)) (hS.nm (a2,n2,d1) (by simp)) (hS.nm (a3,n3,m2) (by simp)) (hS.nm (a4,n4,d2) (by simp)) hd1 hd2 hc1 hc2 hst).mono ?_
 clear hS; rintro en w1 ⟨B1,K1,D1,B2,K2,D2,B3,K3,D3,B4,K4,D4,B5,K5,D5,V1,V2,V3,V4,V5,br,yE1,rfl,hS,qs,hz1⟩
 have QS:=hide qs
 clear qs
 simp only [World.size_alloc] at hz1
 replace hS:=hS.alloc #[.slice B1 K1 D1,.slice B2 K2 D2,.slice B3 K3 D3,.slice B4 K4 D4,.slice B5 K5 D5,.bool br] 111
 try simp only [World.size_alloc] at hS
 obtain ⟨⟨k0_0,k0_1,k0_2,k0_3,k0_4,k0_5,-⟩,-⟩:=hS.cz ⟨w1.heap.size,#[.slice B1 K1 D1,.slice B2 K2 D2,.slice B3 K3 D3,.slice B4 K4 D4,.slice B5 K5 D5,.bool br],111⟩ (by simp)
 obtain ⟨⟨k1_0,k1_1,k1_2,k1_3,k1_4,k1_5,-⟩,-⟩:=hS.cz ⟨w.heap.size,#[.bool s,.slice a1 n1 c1,.slice a2 n2 c2,.bool t,.slice a3 n3 c3,.slice a4 n4 c4],52⟩ (by simp)
 simp only [] at k0_0 k0_1 k0_2 k0_3 k0_4 k0_5 k1_0 k1_1 k1_2 k1_3 k1_4 k1_5
 go_wp2_with fail
 clear k0_0 k0_1 k0_2 k0_3 k0_4 k0_5 k1_0 k1_1 k1_2 k1_3 k1_4 k1_5
 refine (W_below hS br B5 K5 D5 D1 D2 D3 D4 (hS.ow (B1,K1,D1,V1) (by simp)).num (hS.ow (B2,K2,D2,V2) (by simp)).num (hS.ow (B3,K3,D3,V3) (by simp)).num (hS.ow (B4,K4,D4,V4) (by simp)).num).mono ?_
 clear hS; rintro en w2 ⟨rfl,hS,hz2⟩
 simp only [World.size_alloc] at hz2
 cases hlow:decide (V1 < V2∨V1 = V2∧V3 < V4)
 ·have k0_0:=hS.cellAt (x:=⟨w1.heap.size,#[.slice B1 K1 D1,.slice B2 K2 D2,.slice B3 K3 D3,.slice B4 K4 D4,.slice B5 K5 D5,.bool br],111⟩) (by simp) 0 (.slice B1 K1 D1) rfl
  have k0_1:=hS.cellAt (x:=⟨w1.heap.size,#[.slice B1 K1 D1,.slice B2 K2 D2,.slice B3 K3 D3,.slice B4 K4 D4,.slice B5 K5 D5,.bool br],111⟩) (by simp) 1 (.slice B2 K2 D2) rfl
  have k0_2:=hS.cellAt (x:=⟨w1.heap.size,#[.slice B1 K1 D1,.slice B2 K2 D2,.slice B3 K3 D3,.slice B4 K4 D4,.slice B5 K5 D5,.bool br],111⟩) (by simp) 2 (.slice B3 K3 D3) rfl
  have k0_3:=hS.cellAt (x:=⟨w1.heap.size,#[.slice B1 K1 D1,.slice B2 K2 D2,.slice B3 K3 D3,.slice B4 K4 D4,.slice B5 K5 D5,.bool br],111⟩) (by simp) 3 (.slice B4 K4 D4) rfl
  have k0_4:=hS.cellAt (x:=⟨w1.heap.size,#[.slice B1 K1 D1,.slice B2 K2 D2,.slice B3 K3 D3,.slice B4 K4 D4,.slice B5 K5 D5,.bool br],111⟩) (by simp) 4 (.slice B5 K5 D5) rfl
  have k0_5:=hS.cellAt (x:=⟨w1.heap.size,#[.slice B1 K1 D1,.slice B2 K2 D2,.slice B3 K3 D3,.slice B4 K4 D4,.slice B5 K5 D5,.bool br],111⟩) (by simp) 5 (.bool br) rfl
  simp only [] at k0_0 k0_1 k0_2 k0_3 k0_4 k0_5
  go_wp2_with fail
  clear k0_0 k0_1 k0_2 k0_3 k0_4 k0_5
  refine (W_sub hS D1 D2 (hS.ow (B1,K1,D1,V1) (by simp)).num (hS.ow (B2,K2,D2,V2) (by simp)).num).mono ?_
  clear hS; rintro en w3 ⟨yA3,yN3,yC3,yM3,yE3,rfl,hS,q3,hz3⟩
  have Q3:=hide q3
  clear q3
  replace hS:=hS.alloc #[.slice yA3 yN3 yC3] 27
  try simp only [World.size_alloc] at hS
  obtain ⟨⟨k0_0,k0_1,k0_2,k0_3,k0_4,k0_5,-⟩,-⟩:=hS.cz ⟨w1.heap.size,#[.slice B1 K1 D1,.slice B2 K2 D2,.slice B3 K3 D3,.slice B4 K4 D4,.slice B5 K5 D5,.bool br],111⟩ (by simp)
  simp only [] at k0_0 k0_1 k0_2 k0_3 k0_4 k0_5
  go_wp2_with fail
  clear k0_0 k0_1 k0_2 k0_3 k0_4 k0_5
  refine (W_cmp hS D3 D4 (hS.ow (B3,K3,D3,V3) (by simp)).num (hS.ow (B4,K4,D4,V4) (by simp)).num).mono ?_
  clear hS; rintro en w4 ⟨rfl,hS,hz4⟩
  simp only [World.size_alloc] at hz4
  by_cases hlt:V3 < V4
  ·rw [show cmpI V3 V4 = -1 by rw [cmpI,if_pos hlt]]
   have HLT:=hide hlt
   clear hlt
   have HLW:=hide hlow
   clear hlow
   go_wp2_with fail
   replace hS:=hS.sub (bs':=[⟨w3.heap.size,#[.slice yA3 yN3 yC3],27⟩,⟨w1.heap.size,#[.slice B1 K1 D1,.slice B2 K2 D2,.slice B3 K3 D3,.slice B4 K4 D4,.slice B5 K5 D5,.bool br],111⟩,⟨w.heap.size+1,#[.bool false,.slice none 0 0,.slice none 0 0],29⟩]) (ms':=[]) (os':=[(yA3,yN3,yC3,yM3),(B5,K5,D5,V5),(B4,K4,D4,V4),(B3,K3,D3,V3),(B2,K2,D2,V2),(B1,K1,D1,V1)]) (by intro x hx; rcases List.mem_cons.1 hx with rfl|hx; (simp); rcases List.mem_cons.1 hx with rfl|hx; (simp); rcases List.mem_cons.1 hx with rfl|hx; (simp); exact absurd hx List.not_mem_nil) (by intro x hx; exact absurd hx List.not_mem_nil) (by intro x hx; rcases List.mem_cons.1 hx with rfl|hx; (simp); rcases List.mem_cons.1 hx with rfl|hx; (simp); rcases List.mem_cons.1 hx with rfl|hx; (simp); rcases List.mem_cons.1 hx with rfl|hx; (simp); rcases List.mem_cons.1 hx with rfl|hx; (simp); rcases List.mem_cons.1 hx with rfl|hx; (simp); exact absurd hx List.not_mem_nil)
   refine wp_region_any (by kernel_rfl) ?_
   change wpAny _ _ _ _ _ _ _ (World.drew _)
   have hS9:=hS.drew
   have hsW9:(World.drew w4).heap.size = w4.heap.size:=by first|rfl|simp
   generalize World.drew w4 = Wd at hS9 hsW9 ⊢
   obtain ⟨S9,hS9z⟩:∃ x,x = Wd.heap.size:=⟨_,rfl⟩
   have hC9:=Rc.start (bs:=[⟨w1.heap.size,#[.slice B1 K1 D1,.slice B2 K2 D2,.slice B3 K3 D3,.slice B4 K4 D4,.slice B5 K5 D5,.bool br],111⟩,⟨w.heap.size+1,#[.bool false,.slice none 0 0,.slice none 0 0],29⟩]) hS9 (by simp)
   rw [← hS9z] at hC9
   have hP9_0:=hS9.bx ⟨w3.heap.size,#[.slice yA3 yN3 yC3],27⟩ (by simp)
   have hP9_0:=block_lt hP9_0.1
   rw [← hS9z] at hP9_0
   simp only [] at hP9_0
   refine wpAny_inv (fun l act w'=>∃ σ,ApaHL5I w p s t a1 a2 a3 a4 n1 n2 n3 n4 c1 c2 c3 c4 B1 B2 B3 B4 B5 K1 K2 K3 K4 K5 D1 D2 D3 D4 D5 V1 V2 V3 V4 V5 w1 br yA3 yN3 yC3 yM3 yE3 w3 S9 l act w' σ) ?_ ?_ _ _ _ _ ?_ ?_
   ·intro l act w' i9 hI9 hi9 hl9
    have hin9:i9 < 5:=by
     by_cases h:i9 < 5
     ·exact h
     ·obtain ⟨⟨⟩,rfl,_⟩:=hI9
      rw [Array.getElem?_eq_none (by simp; omega)] at hl9; cases hl9
    have hcase:i9 = 0∨i9 = 1∨i9 = 2∨i9 = 3∨i9 = 4:=by omega
    clear hin9
    obtain ⟨⟨b0,b1,b2,b3,b4,v0,v1,v2,v3,A2,N2,C2,A3,N3,C3,M3,E3,bs9,os9⟩,rfl,rfl,hR⟩:=hI9
    rcases hcase with rfl|rfl|rfl|rfl|rfl
    ·obtain rfl:b0 = false:=by simpa using hl9
     have hc:=hR.hc
     refine wpOp_step rfl fun K hK=>?_
     go_simp
     exact hK _ _ ⟨⟨_,_,_,_,_,_,_,_,_,A2,N2,C2,A3,N3,C3,M3,E3,_,_⟩,rfl,rfl,{ hR with hc:=hc,f0:=(fun _=>rfl) }⟩
    ·obtain rfl:b1 = false:=by simpa using hl9
     have hc:=hR.hc
     obtain rfl:b4 = false:=by cases h:b4; rfl; exact Bool.noConfusion (hR.g4_1 h)
     have c9_0:=hc.st.cellAt (hR.o0_0 rfl) 0 (.slice yA3 yN3 yC3) rfl
     simp only [] at c9_0
     refine wpOp_step rfl fun K hK=>?_
     go_simp
     exact hK _ _ ⟨⟨_,_,_,_,_,_,_,_,_,A2,N2,C2,A3,N3,C3,M3,E3,_,_⟩,rfl,rfl,{ hR with hc:=hc,f1:=(fun _=>rfl),g4_1:=(fun _=>rfl) }⟩
    ·obtain rfl:b2 = false:=by simpa using hl9
     have hc:=hR.hc
     have HR:=hide hR
     clear hR
     refine wpOp_step rfl fun K hK=>?_
     go_simp
     go_wp2_with fail
     refine (W_of hc.st 1 (by omega)).mono ?_
     rintro en w9 ⟨a9,n9,c9,rfl,hs9,hz9⟩
     have hR:=unhide HR
     exact hK _ _ ⟨⟨_,_,_,_,_,_,_,_,_,_,_,_,A3,N3,C3,M3,E3,_,_⟩,rfl,rfl,{ hR with hc:=(hc.call hs9 hz9 (fun y hy=>List.mem_cons_of_mem _ hy)),f2:=(fun _=>⟨rfl,List.mem_cons_self ..⟩),f3:=(fun h=>Bool.noConfusion (hR.g3_2 h)),o0_1:=(fun h=>Bool.noConfusion (hR.g4_2 h)),g3_2:=(fun _=>rfl),g4_2:=(fun _=>rfl) }⟩
    ·obtain rfl:b3 = false:=by simpa using hl9
     obtain ⟨o9,ho9,hd9⟩:=(mem_ready.1 hi9).2
     cases ho9
     have e0:b0 = true:=hd9 ⟨0,.data⟩ (by simp) rfl
     have e1:b1 = true:=hd9 ⟨1,.data⟩ (by simp) rfl
     have e2:b2 = true:=hd9 ⟨2,.data⟩ (by simp) rfl
     subst e0 e1 e2
     have h9:=hR.f0 rfl
     subst h9
     have h9:=hR.f1 rfl
     subst h9
     have q2:=hR.f2 rfl
     obtain ⟨h9,q2m⟩:=q2
     subst h9
     have hc:=hR.hc
     simp only [cond_false] at hc
     have HR:=hide hR
     clear hR
     refine wpOp_step rfl fun K hK=>?_
     go_simp
     go_wp2_with fail
     refine (W_sub hc.st yC3 C2 (hc.st.ow (yA3,yN3,yC3,yM3) (hc.oso _ (by simp))).num (hc.st.ow _ q2m).num).mono ?_
     rintro en w9 ⟨a9,n9,c9,m9,e9,rfl,hs9,hz,hz9⟩
     have hR:=unhide HR
     exact hK _ _ ⟨⟨_,_,_,_,_,_,_,_,_,A2,N2,C2,_,_,_,_,_,_,_⟩,rfl,rfl,{ hR with hc:=(hc.call hs9 hz9 (fun y hy=>List.mem_cons_of_mem _ hy)),f2:=(fun h=>⟨(hR.f2 h).1,List.mem_cons_of_mem _ (hR.f2 h).2⟩),f3:=(fun _=>⟨rfl,List.mem_cons_self ..,hz⟩),o0_1:=(fun h=>Bool.noConfusion (hR.g4_3 h)),g3_2:=(fun _=>rfl),g4_3:=(fun _=>rfl) }⟩
    ·obtain rfl:b4 = false:=by simpa using hl9
     obtain ⟨o9,ho9,hd9⟩:=(mem_ready.1 hi9).2
     cases ho9
     have e3:b3 = true:=hd9 ⟨3,.data⟩ (by simp) rfl
     have e1:b1 = true:=hd9 ⟨1,.phase⟩ (by simp) rfl
     subst e3 e1
     have q3:=hR.f3 rfl
     obtain ⟨h9,q3m,q3z⟩:=q3
     subst h9
     have h9:=hR.f1 rfl
     subst h9
     have hc:=hR.hc
     have hm9:=hR.o0_0 rfl
     have fz9_0:=hc.st.frozen hm9 0
     have cz9_0:=hc.st.cellAt hm9 0 (.slice yA3 yN3 yC3) rfl
     simp only [] at fz9_0 cz9_0
     have hn9:∀ x,x∈([⟨w1.heap.size,#[.slice B1 K1 D1,.slice B2 K2 D2,.slice B3 K3 D3,.slice B4 K4 D4,.slice B5 K5 D5,.bool br],111⟩,⟨w.heap.size+1,#[.bool false,.slice none 0 0,.slice none 0 0],29⟩]:List En)→x.b≠w3.heap.size:=by intro x hx; rcases List.mem_cons.1 hx with rfl|hx; (simp only []; omega); rcases List.mem_cons.1 hx with rfl|hx; (simp only []; omega);  exact absurd hx List.not_mem_nil
     have hw9:w.heap.size≤w3.heap.size:=by omega
     refine wpOp_step rfl fun K hK=>?_
     go_simp
     exact hK _ _ ⟨⟨_,_,_,_,_,_,_,_,_,A2,N2,C2,A3,N3,C3,M3,E3,_,_⟩,rfl,rfl,{ hR with hc:=(hc.store hm9 hw9 hn9 0 (.slice A3 N3 C3) (by simp)),o0_0:=(fun h=>Bool.noConfusion h),o0_1:=(fun _=>List.mem_cons_self ..),g4_1:=(fun _=>rfl),g4_3:=(fun _=>rfl),g4_2:=(fun _=>hR.g3_2 rfl) }⟩
   ·rintro l act Wq5 ⟨⟨b0,b1,b2,b3,b4,v0,v1,v2,v3,x5_A2,x5_N2,x5_C2,x5_A3,x5_N3,x5_C3,x5_M3,x5_E3,bs9,os9⟩,rfl,rfl,hR⟩ hr9
    obtain ⟨hc,f0,f1,f2,f3,o0_0,o0_1,g4_1,g3_2,g4_3,g4_2⟩:=hR
    have eall:=all_done hr9 (by kernel_rfl) rfl
    obtain rfl:b0 = true:=eall 0 (by decide)
    obtain rfl:b1 = true:=eall 1 (by decide)
    obtain rfl:b2 = true:=eall 2 (by decide)
    obtain rfl:b3 = true:=eall 3 (by decide)
    obtain rfl:b4 = true:=eall 4 (by decide)
    clear hr9 eall
    have h9:=f0 rfl
    subst h9
    have h9:=f1 rfl
    subst h9
    obtain ⟨h9,q2m⟩:=f2 rfl
    subst h9
    obtain ⟨h9,q3m,qx5_3⟩:=f3 rfl
    subst h9
    simp only [cond_true] at hc
    have hbs9:∀ x,x∈([⟨w3.heap.size,#[.slice x5_A3 x5_N3 x5_C3],27⟩,⟨w1.heap.size,#[.slice B1 K1 D1,.slice B2 K2 D2,.slice B3 K3 D3,.slice B4 K4 D4,.slice B5 K5 D5,.bool br],111⟩,⟨w.heap.size+1,#[.bool false,.slice none 0 0,.slice none 0 0],29⟩]:List En)→x∈bs9:=by
     intro x hx
     rcases List.mem_cons.1 hx with rfl|hx
     ·exact (o0_1 rfl)
     rcases List.mem_cons.1 hx with rfl|hx
     ·exact (hc.old _ (by simp)).1
     rcases List.mem_cons.1 hx with rfl|hx
     ·exact (hc.old _ (by simp)).1
     exact absurd hx List.not_mem_nil
    have hos9:∀ x,x∈([(x5_A2,x5_N2,x5_C2,1),(x5_A3,x5_N3,x5_C3,x5_M3),(yA3,yN3,yC3,yM3),(B5,K5,D5,V5),(B4,K4,D4,V4),(B3,K3,D3,V3),(B2,K2,D2,V2),(B1,K1,D1,V1)]:Os)→x∈os9:=by
     intro x hx
     rcases List.mem_cons.1 hx with rfl|hx
     ·exact q2m
     rcases List.mem_cons.1 hx with rfl|hx
     ·exact q3m
     rcases List.mem_cons.1 hx with rfl|hx
     ·exact hc.oso _ (by simp)
     rcases List.mem_cons.1 hx with rfl|hx
     ·exact hc.oso _ (by simp)
     rcases List.mem_cons.1 hx with rfl|hx
     ·exact hc.oso _ (by simp)
     rcases List.mem_cons.1 hx with rfl|hx
     ·exact hc.oso _ (by simp)
     rcases List.mem_cons.1 hx with rfl|hx
     ·exact hc.oso _ (by simp)
     rcases List.mem_cons.1 hx with rfl|hx
     ·exact hc.oso _ (by simp)
     exact absurd hx List.not_mem_nil
    have hS:=hc.st.sub hbs9 (fun x hx=>hx) hos9
    have hsz9:=hc.sz
    rw [hS9z,hsW9] at hsz9
    clear hbs9 hos9 hc f0 f1 f2 f3 o0_0 o0_1 g4_1 g3_2 g4_3 g4_2
    clear q2m q3m
    have hz5:=hsz9
    clear hsz9 hS9z hS9 hC9 hsW9
    have Qx5_3:=hide qx5_3
    clear qx5_3
    go_wp2_with fail
    replace hS:=hS.sub (bs':=[⟨w3.heap.size,#[.slice x5_A3 x5_N3 x5_C3],27⟩,⟨w1.heap.size,#[.slice B1 K1 D1,.slice B2 K2 D2,.slice B3 K3 D3,.slice B4 K4 D4,.slice B5 K5 D5,.bool br],111⟩,⟨w.heap.size+1,#[.bool false,.slice none 0 0,.slice none 0 0],29⟩]) (ms':=[]) (os':=[(x5_A3,x5_N3,x5_C3,x5_M3),(B5,K5,D5,V5),(B4,K4,D4,V4),(B3,K3,D3,V3),(B2,K2,D2,V2),(B1,K1,D1,V1)]) (by intro x hx; rcases List.mem_cons.1 hx with rfl|hx; (simp); rcases List.mem_cons.1 hx with rfl|hx; (simp); rcases List.mem_cons.1 hx with rfl|hx; (simp); exact absurd hx List.not_mem_nil) (by intro x hx; exact absurd hx List.not_mem_nil) (by intro x hx; rcases List.mem_cons.1 hx with rfl|hx; (simp); rcases List.mem_cons.1 hx with rfl|hx; (simp); rcases List.mem_cons.1 hx with rfl|hx; (simp); rcases List.mem_cons.1 hx with rfl|hx; (simp); rcases List.mem_cons.1 hx with rfl|hx; (simp); rcases List.mem_cons.1 hx with rfl|hx; (simp); exact absurd hx List.not_mem_nil)
    refine wp_region_any (by kernel_rfl) ?_
    change wpAny _ _ _ _ _ _ _ (World.drew _)
    have hS9:=hS.drew
    have hsW9:(World.drew Wq5).heap.size = Wq5.heap.size:=by first|rfl|simp
    generalize World.drew Wq5 = Wd at hS9 hsW9 ⊢
    obtain ⟨S9,hS9z⟩:∃ x,x = Wd.heap.size:=⟨_,rfl⟩
    have hC9:=Rc.start (bs:=[⟨w3.heap.size,#[.slice x5_A3 x5_N3 x5_C3],27⟩,⟨w.heap.size+1,#[.bool false,.slice none 0 0,.slice none 0 0],29⟩]) hS9 (by simp)
    rw [← hS9z] at hC9
    have hP9_0:=hS9.bx ⟨w1.heap.size,#[.slice B1 K1 D1,.slice B2 K2 D2,.slice B3 K3 D3,.slice B4 K4 D4,.slice B5 K5 D5,.bool br],111⟩ (by simp)
    have hP9_0:=block_lt hP9_0.1
    rw [← hS9z] at hP9_0
    simp only [] at hP9_0
    refine wpAny_inv (fun l act w'=>∃ σ,ApaHL6I w p s t a1 a2 a3 a4 n1 n2 n3 n4 c1 c2 c3 c4 B1 B2 B3 B4 B5 K1 K2 K3 K4 K5 D1 D2 D3 D4 D5 V1 V2 V3 V4 V5 w1 br yA3 yN3 yC3 w3 x5_A2 x5_N2 x5_C2 x5_A3 x5_N3 x5_C3 x5_M3 x5_E3 S9 l act w' σ) ?_ ?_ _ _ _ _ ?_ ?_
    ·intro l act w' i9 hI9 hi9 hl9
     have hin9:i9 < 12:=by
      by_cases h:i9 < 12
      ·exact h
      ·obtain ⟨⟨⟩,rfl,_⟩:=hI9
       rw [Array.getElem?_eq_none (by simp; omega)] at hl9; cases hl9
     have hcase:i9 = 0∨i9 = 1∨i9 = 2∨i9 = 3∨i9 = 4∨i9 = 5∨i9 = 6∨i9 = 7∨i9 = 8∨i9 = 9∨i9 = 10∨i9 = 11:=by omega
     clear hin9
     obtain ⟨⟨b0,b1,b2,b3,b4,b5,b6,b7,b8,b9,b10,b11,v0,v1,v2,v3,v4,v5,v6,v7,v8,v9,v10,A6,N6,C6,M6,E6,A9,N9,C9,M9,E9,bs9,os9⟩,rfl,rfl,hR⟩:=hI9
     rcases hcase with rfl|rfl|rfl|rfl|rfl|rfl|rfl|rfl|rfl|rfl|rfl|rfl
     ·obtain rfl:b0 = false:=by simpa using hl9
      have hc:=hR.hc
      refine wpOp_step rfl fun K hK=>?_
      go_simp
      exact hK _ _ ⟨⟨_,_,_,_,_,_,_,_,_,_,_,_,_,_,_,_,_,_,_,_,_,_,_,A6,N6,C6,M6,E6,A9,N9,C9,M9,E9,_,_⟩,rfl,rfl,{ hR with hc:=hc,f0:=(fun _=>rfl) }⟩
     ·obtain rfl:b1 = false:=by simpa using hl9
      have hc:=hR.hc
      refine wpOp_step rfl fun K hK=>?_
      go_simp
      exact hK _ _ ⟨⟨_,_,_,_,_,_,_,_,_,_,_,_,_,_,_,_,_,_,_,_,_,_,_,A6,N6,C6,M6,E6,A9,N9,C9,M9,E9,_,_⟩,rfl,rfl,{ hR with hc:=hc,f1:=(fun _=>rfl) }⟩
     ·obtain rfl:b2 = false:=by simpa using hl9
      have hc:=hR.hc
      refine wpOp_step rfl fun K hK=>?_
      go_simp
      exact hK _ _ ⟨⟨_,_,_,_,_,_,_,_,_,_,_,_,_,_,_,_,_,_,_,_,_,_,_,A6,N6,C6,M6,E6,A9,N9,C9,M9,E9,_,_⟩,rfl,rfl,{ hR with hc:=hc,f2:=(fun _=>rfl) }⟩
     ·obtain rfl:b3 = false:=by simpa using hl9
      obtain ⟨o9,ho9,hd9⟩:=(mem_ready.1 hi9).2
      cases ho9
      have e2:b2 = true:=hd9 ⟨2,.data⟩ (by simp) rfl
      subst e2
      have h9:=hR.f2 rfl
      subst h9
      have hc:=hR.hc
      obtain rfl:b11 = false:=by cases h:b11; rfl; exact Bool.noConfusion (hR.g11_3 h)
      have c9_0:=hc.st.cellAt (hR.o0_0 rfl) 4 (.slice B5 K5 D5) rfl
      simp only [] at c9_0
      refine wpOp_step rfl fun K hK=>?_
      go_simp
      exact hK _ _ ⟨⟨_,_,_,_,_,_,_,_,_,_,_,_,_,_,_,_,_,_,_,_,_,_,_,A6,N6,C6,M6,E6,A9,N9,C9,M9,E9,_,_⟩,rfl,rfl,{ hR with hc:=hc,f3:=(fun _=>rfl),g11_3:=(fun _=>rfl) }⟩
     ·obtain rfl:b4 = false:=by simpa using hl9
      have hc:=hR.hc
      refine wpOp_step rfl fun K hK=>?_
      go_simp
      exact hK _ _ ⟨⟨_,_,_,_,_,_,_,_,_,_,_,_,_,_,_,_,_,_,_,_,_,_,_,A6,N6,C6,M6,E6,A9,N9,C9,M9,E9,_,_⟩,rfl,rfl,{ hR with hc:=hc,f4:=(fun _=>rfl) }⟩
     ·obtain rfl:b5 = false:=by simpa using hl9
      obtain ⟨o9,ho9,hd9⟩:=(mem_ready.1 hi9).2
      cases ho9
      have e4:b4 = true:=hd9 ⟨4,.data⟩ (by simp) rfl
      subst e4
      have h9:=hR.f4 rfl
      subst h9
      have hc:=hR.hc
      obtain rfl:b11 = false:=by cases h:b11; rfl; exact Bool.noConfusion (hR.g11_5 h)
      have c9_0:=hc.st.cellAt (hR.o0_0 rfl) 3 (.slice B4 K4 D4) rfl
      simp only [] at c9_0
      refine wpOp_step rfl fun K hK=>?_
      go_simp
      exact hK _ _ ⟨⟨_,_,_,_,_,_,_,_,_,_,_,_,_,_,_,_,_,_,_,_,_,_,_,A6,N6,C6,M6,E6,A9,N9,C9,M9,E9,_,_⟩,rfl,rfl,{ hR with hc:=hc,f5:=(fun _=>rfl),g11_5:=(fun _=>rfl) }⟩
     ·obtain rfl:b6 = false:=by simpa using hl9
      obtain ⟨o9,ho9,hd9⟩:=(mem_ready.1 hi9).2
      cases ho9
      have e1:b1 = true:=hd9 ⟨1,.data⟩ (by simp) rfl
      have e3:b3 = true:=hd9 ⟨3,.data⟩ (by simp) rfl
      have e5:b5 = true:=hd9 ⟨5,.data⟩ (by simp) rfl
      subst e1 e3 e5
      have h9:=hR.f1 rfl
      subst h9
      have h9:=hR.f3 rfl
      subst h9
      have h9:=hR.f5 rfl
      subst h9
      have hc:=hR.hc
      obtain rfl:b9 = false:=by cases h:b9; rfl; exact Bool.noConfusion (hR.g9_6 h)
      simp only [cond_false] at hc
      have HR:=hide hR
      clear hR
      refine wpOp_step rfl fun K hK=>?_
      go_simp
      go_wp2_with fail
      refine (W_sub hc.st D5 D4 (hc.st.ow (B5,K5,D5,V5) (hc.oso _ (by simp))).num (hc.st.ow (B4,K4,D4,V4) (hc.oso _ (by simp))).num).mono ?_
      rintro en w9 ⟨a9,n9,c9,m9,e9,rfl,hs9,hz,hz9⟩
      have hR:=unhide HR
      exact hK _ _ ⟨⟨_,_,_,_,_,_,_,_,_,_,_,_,_,_,_,_,_,_,_,_,_,_,_,_,_,_,_,_,A9,N9,C9,M9,E9,_,_⟩,rfl,rfl,{ hR with hc:=(hc.call hs9 hz9 (fun y hy=>List.mem_cons_of_mem _ hy)),f6:=(fun _=>⟨rfl,List.mem_cons_self ..,hz⟩),f9:=(fun h=>Bool.noConfusion (hR.g9_6 h)),o0_1:=(fun h=>Bool.noConfusion (hR.g11_6 h)),g9_6:=(fun _=>rfl),g11_6:=(fun _=>rfl) }⟩
     ·obtain rfl:b7 = false:=by simpa using hl9
      have hc:=hR.hc
      refine wpOp_step rfl fun K hK=>?_
      go_simp
      exact hK _ _ ⟨⟨_,_,_,_,_,_,_,_,_,_,_,_,_,_,_,_,_,_,_,_,_,_,_,A6,N6,C6,M6,E6,A9,N9,C9,M9,E9,_,_⟩,rfl,rfl,{ hR with hc:=hc,f7:=(fun _=>rfl) }⟩
     ·obtain rfl:b8 = false:=by simpa using hl9
      obtain ⟨o9,ho9,hd9⟩:=(mem_ready.1 hi9).2
      cases ho9
      have e7:b7 = true:=hd9 ⟨7,.data⟩ (by simp) rfl
      subst e7
      have h9:=hR.f7 rfl
      subst h9
      have hc:=hR.hc
      obtain rfl:b11 = false:=by cases h:b11; rfl; exact Bool.noConfusion (hR.g11_8 h)
      have c9_0:=hc.st.cellAt (hR.o0_0 rfl) 2 (.slice B3 K3 D3) rfl
      simp only [] at c9_0
      refine wpOp_step rfl fun K hK=>?_
      go_simp
      exact hK _ _ ⟨⟨_,_,_,_,_,_,_,_,_,_,_,_,_,_,_,_,_,_,_,_,_,_,_,A6,N6,C6,M6,E6,A9,N9,C9,M9,E9,_,_⟩,rfl,rfl,{ hR with hc:=hc,f8:=(fun _=>rfl),g11_8:=(fun _=>rfl) }⟩
     ·obtain rfl:b9 = false:=by simpa using hl9
      obtain ⟨o9,ho9,hd9⟩:=(mem_ready.1 hi9).2
      cases ho9
      have e0:b0 = true:=hd9 ⟨0,.data⟩ (by simp) rfl
      have e6:b6 = true:=hd9 ⟨6,.data⟩ (by simp) rfl
      have e8:b8 = true:=hd9 ⟨8,.data⟩ (by simp) rfl
      subst e0 e6 e8
      have h9:=hR.f0 rfl
      subst h9
      have q6:=hR.f6 rfl
      obtain ⟨h9,q6m,q6z⟩:=q6
      subst h9
      have h9:=hR.f8 rfl
      subst h9
      have hc:=hR.hc
      simp only [cond_true,cond_false] at hc
      have HR:=hide hR
      clear hR
      refine wpOp_step rfl fun K hK=>?_
      go_simp
      go_wp2_with fail
      refine (W_add hc.st C6 D3 (hc.st.ow _ q6m).num (hc.st.ow (B3,K3,D3,V3) (hc.oso _ (by simp))).num).mono ?_
      rintro en w9 ⟨a9,n9,c9,m9,e9,rfl,hs9,hz,hz9⟩
      have hR:=unhide HR
      exact hK _ _ ⟨⟨_,_,_,_,_,_,_,_,_,_,_,_,_,_,_,_,_,_,_,_,_,_,_,A6,N6,C6,M6,E6,_,_,_,_,_,_,_⟩,rfl,rfl,{ hR with hc:=(hc.call hs9 hz9 (fun y hy=>List.mem_cons_of_mem _ hy)),f6:=(fun h=>⟨(hR.f6 h).1,List.mem_cons_of_mem _ (hR.f6 h).2.1,(hR.f6 h).2.2⟩),f9:=(fun _=>⟨rfl,List.mem_cons_self ..,hz⟩),o0_1:=(fun h=>Bool.noConfusion (hR.g11_9 h)),g9_6:=(fun _=>rfl),g11_9:=(fun _=>rfl) }⟩
     ·obtain rfl:b10 = false:=by simpa using hl9
      have hc:=hR.hc
      refine wpOp_step rfl fun K hK=>?_
      go_simp
      exact hK _ _ ⟨⟨_,_,_,_,_,_,_,_,_,_,_,_,_,_,_,_,_,_,_,_,_,_,_,A6,N6,C6,M6,E6,A9,N9,C9,M9,E9,_,_⟩,rfl,rfl,{ hR with hc:=hc,f10:=(fun _=>rfl) }⟩
     ·obtain rfl:b11 = false:=by simpa using hl9
      obtain ⟨o9,ho9,hd9⟩:=(mem_ready.1 hi9).2
      cases ho9
      have e9:b9 = true:=hd9 ⟨9,.data⟩ (by simp) rfl
      have e10:b10 = true:=hd9 ⟨10,.data⟩ (by simp) rfl
      have e3:b3 = true:=hd9 ⟨3,.phase⟩ (by simp) rfl
      have e5:b5 = true:=hd9 ⟨5,.phase⟩ (by simp) rfl
      have e8:b8 = true:=hd9 ⟨8,.phase⟩ (by simp) rfl
      subst e9 e10 e3 e5 e8
      have q9:=hR.f9 rfl
      obtain ⟨h9,q9m,q9z⟩:=q9
      subst h9
      have h9:=hR.f10 rfl
      subst h9
      have h9:=hR.f3 rfl
      subst h9
      have h9:=hR.f5 rfl
      subst h9
      have h9:=hR.f8 rfl
      subst h9
      have hc:=hR.hc
      have hm9:=hR.o0_0 rfl
      have fz9_0:=hc.st.frozen hm9 2
      have cz9_0:=hc.st.cellAt hm9 2 (.slice B3 K3 D3) rfl
      simp only [] at fz9_0 cz9_0
      have hn9:∀ x,x∈([⟨w3.heap.size,#[.slice x5_A3 x5_N3 x5_C3],27⟩,⟨w.heap.size+1,#[.bool false,.slice none 0 0,.slice none 0 0],29⟩]:List En)→x.b≠w1.heap.size:=by intro x hx; rcases List.mem_cons.1 hx with rfl|hx; (simp only []; omega); rcases List.mem_cons.1 hx with rfl|hx; (simp only []; omega);  exact absurd hx List.not_mem_nil
      have hw9:w.heap.size≤w1.heap.size:=by omega
      refine wpOp_step rfl fun K hK=>?_
      go_simp
      exact hK _ _ ⟨⟨_,_,_,_,_,_,_,_,_,_,_,_,_,_,_,_,_,_,_,_,_,_,_,A6,N6,C6,M6,E6,A9,N9,C9,M9,E9,_,_⟩,rfl,rfl,{ hR with hc:=(hc.store hm9 hw9 hn9 2 (.slice A9 N9 C9) (by simp)),o0_0:=(fun h=>Bool.noConfusion h),o0_1:=(fun _=>List.mem_cons_self ..),g11_3:=(fun _=>rfl),g11_5:=(fun _=>rfl),g11_8:=(fun _=>rfl),g11_9:=(fun _=>rfl),g11_6:=(fun _=>hR.g9_6 rfl) }⟩
    ·rintro l act Wq6 ⟨⟨b0,b1,b2,b3,b4,b5,b6,b7,b8,b9,b10,b11,v0,v1,v2,v3,v4,v5,v6,v7,v8,v9,v10,x6_A6,x6_N6,x6_C6,x6_M6,x6_E6,x6_A9,x6_N9,x6_C9,x6_M9,x6_E9,bs9,os9⟩,rfl,rfl,hR⟩ hr9
     obtain ⟨hc,f0,f1,f2,f3,f4,f5,f6,f7,f8,f9,f10,o0_0,o0_1,g11_3,g11_5,g11_8,g9_6,g11_9,g11_6⟩:=hR
     have eall:=all_done hr9 (by kernel_rfl) rfl
     obtain rfl:b0 = true:=eall 0 (by decide)
     obtain rfl:b1 = true:=eall 1 (by decide)
     obtain rfl:b2 = true:=eall 2 (by decide)
     obtain rfl:b3 = true:=eall 3 (by decide)
     obtain rfl:b4 = true:=eall 4 (by decide)
     obtain rfl:b5 = true:=eall 5 (by decide)
     obtain rfl:b6 = true:=eall 6 (by decide)
     obtain rfl:b7 = true:=eall 7 (by decide)
     obtain rfl:b8 = true:=eall 8 (by decide)
     obtain rfl:b9 = true:=eall 9 (by decide)
     obtain rfl:b10 = true:=eall 10 (by decide)
     obtain rfl:b11 = true:=eall 11 (by decide)
     clear hr9 eall
     have h9:=f0 rfl
     subst h9
     have h9:=f1 rfl
     subst h9
     have h9:=f2 rfl
     subst h9
     have h9:=f3 rfl
     subst h9
     have h9:=f4 rfl
     subst h9
     have h9:=f5 rfl
     subst h9
     obtain ⟨h9,q6m,qx6_6⟩:=f6 rfl
     subst h9
     have h9:=f7 rfl
     subst h9
     have h9:=f8 rfl
     subst h9
     obtain ⟨h9,q9m,qx6_9⟩:=f9 rfl
     subst h9
     have h9:=f10 rfl
     subst h9
     simp only [cond_true] at hc
     have hbs9:∀ x,x∈([⟨w1.heap.size,#[.slice B1 K1 D1,.slice B2 K2 D2,.slice x6_A9 x6_N9 x6_C9,.slice B4 K4 D4,.slice B5 K5 D5,.bool br],111⟩,⟨w3.heap.size,#[.slice x5_A3 x5_N3 x5_C3],27⟩,⟨w.heap.size+1,#[.bool false,.slice none 0 0,.slice none 0 0],29⟩]:List En)→x∈bs9:=by
      intro x hx
      rcases List.mem_cons.1 hx with rfl|hx
      ·exact (o0_1 rfl)
      rcases List.mem_cons.1 hx with rfl|hx
      ·exact (hc.old _ (by simp)).1
      rcases List.mem_cons.1 hx with rfl|hx
      ·exact (hc.old _ (by simp)).1
      exact absurd hx List.not_mem_nil
     have hos9:∀ x,x∈([(x6_A6,x6_N6,x6_C6,x6_M6),(x6_A9,x6_N9,x6_C9,x6_M9),(x5_A3,x5_N3,x5_C3,x5_M3),(B5,K5,D5,V5),(B4,K4,D4,V4),(B3,K3,D3,V3),(B2,K2,D2,V2),(B1,K1,D1,V1)]:Os)→x∈os9:=by
      intro x hx
      rcases List.mem_cons.1 hx with rfl|hx
      ·exact q6m
      rcases List.mem_cons.1 hx with rfl|hx
      ·exact q9m
      rcases List.mem_cons.1 hx with rfl|hx
      ·exact hc.oso _ (by simp)
      rcases List.mem_cons.1 hx with rfl|hx
      ·exact hc.oso _ (by simp)
      rcases List.mem_cons.1 hx with rfl|hx
      ·exact hc.oso _ (by simp)
      rcases List.mem_cons.1 hx with rfl|hx
      ·exact hc.oso _ (by simp)
      rcases List.mem_cons.1 hx with rfl|hx
      ·exact hc.oso _ (by simp)
      rcases List.mem_cons.1 hx with rfl|hx
      ·exact hc.oso _ (by simp)
      exact absurd hx List.not_mem_nil
     have hS:=hc.st.sub hbs9 (fun x hx=>hx) hos9
     have hsz9:=hc.sz
     rw [hS9z,hsW9] at hsz9
     clear hbs9 hos9 hc f0 f1 f2 f3 f4 f5 f6 f7 f8 f9 f10 o0_0 o0_1 g11_3 g11_5 g11_8 g9_6 g11_9 g11_6
     clear q6m q9m
     have hz6:=hsz9
     clear hsz9 hS9z hS9 hC9 hsW9
     have Qx6_6:=hide qx6_6
     clear qx6_6
     have Qx6_9:=hide qx6_9
     clear qx6_9
     have u1:=hS.cellAt (x:=⟨w1.heap.size,#[.slice B1 K1 D1,.slice B2 K2 D2,.slice x6_A9 x6_N9 x6_C9,.slice B4 K4 D4,.slice B5 K5 D5,.bool br],111⟩) (by simp) 3 (.slice B4 K4 D4) rfl
     have y1:=hS.frozen (x:=⟨w1.heap.size,#[.slice B1 K1 D1,.slice B2 K2 D2,.slice x6_A9 x6_N9 x6_C9,.slice B4 K4 D4,.slice B5 K5 D5,.bool br],111⟩) (by simp) 3
     simp only [] at u1 y1
     replace hS:=hS.put (x:=⟨w1.heap.size,#[.slice B1 K1 D1,.slice B2 K2 D2,.slice x6_A9 x6_N9 x6_C9,.slice B4 K4 D4,.slice B5 K5 D5,.bool br],111⟩) (by simp) (by simp only []; omega) 3 (.slice none 0 0) (by simp) [⟨w1.heap.size,#[.slice B1 K1 D1,.slice B2 K2 D2,.slice x6_A9 x6_N9 x6_C9,.slice none 0 0,.slice B5 K5 D5,.bool br],111⟩,⟨w3.heap.size,#[.slice x5_A3 x5_N3 x5_C3],27⟩,⟨w.heap.size+1,#[.bool false,.slice none 0 0,.slice none 0 0],29⟩] (by intro y hy; rcases List.mem_cons.1 hy with rfl|hy; exact Or.inl rfl; rcases List.mem_cons.1 hy with rfl|hy; exact Or.inr ⟨by simp,by simp only []; omega⟩; rcases List.mem_cons.1 hy with rfl|hy; exact Or.inr ⟨by simp,by simp only []; omega⟩; exact absurd hy List.not_mem_nil)
     go_wp2_with fail
     replace hS:=hS.sub (bs':=[⟨w1.heap.size,#[.slice B1 K1 D1,.slice B2 K2 D2,.slice x6_A9 x6_N9 x6_C9,.slice none 0 0,.slice B5 K5 D5,.bool br],111⟩,⟨w3.heap.size,#[.slice x5_A3 x5_N3 x5_C3],27⟩,⟨w.heap.size+1,#[.bool false,.slice none 0 0,.slice none 0 0],29⟩]) (ms':=[]) (os':=[(x6_A9,x6_N9,x6_C9,x6_M9),(x5_A3,x5_N3,x5_C3,x5_M3),(B5,K5,D5,V5),(B2,K2,D2,V2),(B1,K1,D1,V1)]) (by intro x hx; rcases List.mem_cons.1 hx with rfl|hx; (simp); rcases List.mem_cons.1 hx with rfl|hx; (simp); rcases List.mem_cons.1 hx with rfl|hx; (simp); exact absurd hx List.not_mem_nil) (by intro x hx; exact absurd hx List.not_mem_nil) (by intro x hx; rcases List.mem_cons.1 hx with rfl|hx; (simp); rcases List.mem_cons.1 hx with rfl|hx; (simp); rcases List.mem_cons.1 hx with rfl|hx; (simp); rcases List.mem_cons.1 hx with rfl|hx; (simp); rcases List.mem_cons.1 hx with rfl|hx; (simp); exact absurd hx List.not_mem_nil)
     refine wp_region_any (by kernel_rfl) ?_
     change wpAny _ _ _ _ _ _ _ (World.drew _)
     have hS9:=hS.drew
     have hsW9:(World.drew (Wq6.setCell ⟨w1.heap.size,3,none⟩ (.slice none 0 0))).heap.size = Wq6.heap.size:=by first|rfl|simp
     generalize World.drew (Wq6.setCell ⟨w1.heap.size,3,none⟩ (.slice none 0 0)) = Wd at hS9 hsW9 ⊢
     obtain ⟨S9,hS9z⟩:∃ x,x = Wd.heap.size:=⟨_,rfl⟩
     have hC9:=Rc.start (bs:=[⟨w1.heap.size,#[.slice B1 K1 D1,.slice B2 K2 D2,.slice x6_A9 x6_N9 x6_C9,.slice none 0 0,.slice B5 K5 D5,.bool br],111⟩,⟨w3.heap.size,#[.slice x5_A3 x5_N3 x5_C3],27⟩,⟨w.heap.size+1,#[.bool false,.slice none 0 0,.slice none 0 0],29⟩]) hS9 (by simp)
     rw [← hS9z] at hC9
     refine wpAny_inv (fun l act w'=>∃ σ,ApaHL7I w p s t a1 a2 a3 a4 n1 n2 n3 n4 c1 c2 c3 c4 B1 B2 B3 B4 B5 K1 K2 K3 K4 K5 D1 D2 D3 D4 D5 V1 V2 V5 w1 br yA3 yN3 yC3 w3 x5_A2 x5_N2 x5_C2 x5_A3 x5_N3 x5_C3 x5_M3 x6_A6 x6_N6 x6_C6 x6_A9 x6_N9 x6_C9 x6_M9 x6_E9 S9 l act w' σ) ?_ ?_ _ _ _ _ ?_ ?_
     ·intro l act w' i9 hI9 hi9 hl9
      have hin9:i9 < 15:=by
       by_cases h:i9 < 15
       ·exact h
       ·obtain ⟨⟨⟩,rfl,_⟩:=hI9
        rw [Array.getElem?_eq_none (by simp; omega)] at hl9; cases hl9
      have hcase:i9 = 0∨i9 = 1∨i9 = 2∨i9 = 3∨i9 = 4∨i9 = 5∨i9 = 6∨i9 = 7∨i9 = 8∨i9 = 9∨i9 = 10∨i9 = 11∨i9 = 12∨i9 = 13∨i9 = 14:=by omega
      clear hin9
      obtain ⟨⟨b0,b1,b2,b3,b4,b5,b6,b7,b8,b9,b10,b11,b12,b13,b14,v0,v1,v2,v3,v4,v5,v6,v7,v8,v9,v10,v11,v12,v13,A5,N5,C5,M5,E5,A11,N11,C11,M11,E11,A12,N12,C12,M12,E12,bs9,os9⟩,rfl,rfl,hR⟩:=hI9
      rcases hcase with rfl|rfl|rfl|rfl|rfl|rfl|rfl|rfl|rfl|rfl|rfl|rfl|rfl|rfl|rfl
      ·obtain rfl:b0 = false:=by simpa using hl9
       have hc:=hR.hc
       refine wpOp_step rfl fun K hK=>?_
       go_simp
       exact hK _ _ ⟨⟨_,_,_,_,_,_,_,_,_,_,_,_,_,_,_,_,_,_,_,_,_,_,_,_,_,_,_,_,_,A5,N5,C5,M5,E5,A11,N11,C11,M11,E11,A12,N12,C12,M12,E12,_,_⟩,rfl,rfl,{ hR with hc:=hc,f0:=(fun _=>rfl) }⟩
      ·obtain rfl:b1 = false:=by simpa using hl9
       have hc:=hR.hc
       refine wpOp_step rfl fun K hK=>?_
       go_simp
       exact hK _ _ ⟨⟨_,_,_,_,_,_,_,_,_,_,_,_,_,_,_,_,_,_,_,_,_,_,_,_,_,_,_,_,_,A5,N5,C5,M5,E5,A11,N11,C11,M11,E11,A12,N12,C12,M12,E12,_,_⟩,rfl,rfl,{ hR with hc:=hc,f1:=(fun _=>rfl) }⟩
      ·obtain rfl:b2 = false:=by simpa using hl9
       have hc:=hR.hc
       have c9_0:=hc.st.cellAt (hc.old ⟨w3.heap.size,#[.slice x5_A3 x5_N3 x5_C3],27⟩ (by simp)).1 0 (.slice x5_A3 x5_N3 x5_C3) rfl
       simp only [] at c9_0
       refine wpOp_step rfl fun K hK=>?_
       go_simp
       exact hK _ _ ⟨⟨_,_,_,_,_,_,_,_,_,_,_,_,_,_,_,_,_,_,_,_,_,_,_,_,_,_,_,_,_,A5,N5,C5,M5,E5,A11,N11,C11,M11,E11,A12,N12,C12,M12,E12,_,_⟩,rfl,rfl,{ hR with hc:=hc,f2:=(fun _=>rfl) }⟩
      ·obtain rfl:b3 = false:=by simpa using hl9
       have hc:=hR.hc
       refine wpOp_step rfl fun K hK=>?_
       go_simp
       exact hK _ _ ⟨⟨_,_,_,_,_,_,_,_,_,_,_,_,_,_,_,_,_,_,_,_,_,_,_,_,_,_,_,_,_,A5,N5,C5,M5,E5,A11,N11,C11,M11,E11,A12,N12,C12,M12,E12,_,_⟩,rfl,rfl,{ hR with hc:=hc,f3:=(fun _=>rfl) }⟩
      ·obtain rfl:b4 = false:=by simpa using hl9
       obtain ⟨o9,ho9,hd9⟩:=(mem_ready.1 hi9).2
       cases ho9
       have e3:b3 = true:=hd9 ⟨3,.data⟩ (by simp) rfl
       subst e3
       have h9:=hR.f3 rfl
       subst h9
       have hc:=hR.hc
       have c9_0:=hc.st.cellAt (hc.old ⟨w1.heap.size,#[.slice B1 K1 D1,.slice B2 K2 D2,.slice x6_A9 x6_N9 x6_C9,.slice none 0 0,.slice B5 K5 D5,.bool br],111⟩ (by simp)).1 4 (.slice B5 K5 D5) rfl
       simp only [] at c9_0
       refine wpOp_step rfl fun K hK=>?_
       go_simp
       exact hK _ _ ⟨⟨_,_,_,_,_,_,_,_,_,_,_,_,_,_,_,_,_,_,_,_,_,_,_,_,_,_,_,_,_,A5,N5,C5,M5,E5,A11,N11,C11,M11,E11,A12,N12,C12,M12,E12,_,_⟩,rfl,rfl,{ hR with hc:=hc,f4:=(fun _=>rfl) }⟩
      ·obtain rfl:b5 = false:=by simpa using hl9
       obtain ⟨o9,ho9,hd9⟩:=(mem_ready.1 hi9).2
       cases ho9
       have e1:b1 = true:=hd9 ⟨1,.data⟩ (by simp) rfl
       have e2:b2 = true:=hd9 ⟨2,.data⟩ (by simp) rfl
       have e4:b4 = true:=hd9 ⟨4,.data⟩ (by simp) rfl
       subst e1 e2 e4
       have h9:=hR.f1 rfl
       subst h9
       have h9:=hR.f2 rfl
       subst h9
       have h9:=hR.f4 rfl
       subst h9
       have hc:=hR.hc
       obtain rfl:b11 = false:=by cases h:b11; rfl; exact Bool.noConfusion (hR.g11_5 h)
       obtain rfl:b12 = false:=by cases h:b12; rfl; exact Bool.noConfusion (hR.g12_11 h)
       simp only [cond_false] at hc
       have HR:=hide hR
       clear hR
       refine wpOp_step rfl fun K hK=>?_
       go_simp
       go_wp2_with fail
       refine (W_mul hc.st x5_C3 D5 (hc.st.ow (x5_A3,x5_N3,x5_C3,x5_M3) (hc.oso _ (by simp))).num (hc.st.ow (B5,K5,D5,V5) (hc.oso _ (by simp))).num).mono ?_
       rintro en w9 ⟨a9,n9,c9,m9,e9,rfl,hs9,hz,hz9⟩
       have hR:=unhide HR
       exact hK _ _ ⟨⟨_,_,_,_,_,_,_,_,_,_,_,_,_,_,_,_,_,_,_,_,_,_,_,_,_,_,_,_,_,_,_,_,_,_,A11,N11,C11,M11,E11,A12,N12,C12,M12,E12,_,_⟩,rfl,rfl,{ hR with hc:=(hc.call hs9 hz9 (fun y hy=>List.mem_cons_of_mem _ hy)),f5:=(fun _=>⟨rfl,List.mem_cons_self ..,hz⟩),f11:=(fun h=>Bool.noConfusion (hR.g11_5 h)),f12:=(fun h=>Bool.noConfusion (hR.g12_5 h)),f14:=(fun h=>Bool.noConfusion (hR.g14_5 h)),g11_5:=(fun _=>rfl),g12_5:=(fun _=>rfl),g14_5:=(fun _=>rfl) }⟩
      ·obtain rfl:b6 = false:=by simpa using hl9
       have hc:=hR.hc
       refine wpOp_step rfl fun K hK=>?_
       go_simp
       exact hK _ _ ⟨⟨_,_,_,_,_,_,_,_,_,_,_,_,_,_,_,_,_,_,_,_,_,_,_,_,_,_,_,_,_,A5,N5,C5,M5,E5,A11,N11,C11,M11,E11,A12,N12,C12,M12,E12,_,_⟩,rfl,rfl,{ hR with hc:=hc,f6:=(fun _=>rfl) }⟩
      ·obtain rfl:b7 = false:=by simpa using hl9
       have hc:=hR.hc
       refine wpOp_step rfl fun K hK=>?_
       go_simp
       exact hK _ _ ⟨⟨_,_,_,_,_,_,_,_,_,_,_,_,_,_,_,_,_,_,_,_,_,_,_,_,_,_,_,_,_,A5,N5,C5,M5,E5,A11,N11,C11,M11,E11,A12,N12,C12,M12,E12,_,_⟩,rfl,rfl,{ hR with hc:=hc,f7:=(fun _=>rfl) }⟩
      ·obtain rfl:b8 = false:=by simpa using hl9
       obtain ⟨o9,ho9,hd9⟩:=(mem_ready.1 hi9).2
       cases ho9
       have e7:b7 = true:=hd9 ⟨7,.data⟩ (by simp) rfl
       subst e7
       have h9:=hR.f7 rfl
       subst h9
       have hc:=hR.hc
       have c9_0:=hc.st.cellAt (hc.old ⟨w1.heap.size,#[.slice B1 K1 D1,.slice B2 K2 D2,.slice x6_A9 x6_N9 x6_C9,.slice none 0 0,.slice B5 K5 D5,.bool br],111⟩ (by simp)).1 2 (.slice x6_A9 x6_N9 x6_C9) rfl
       simp only [] at c9_0
       refine wpOp_step rfl fun K hK=>?_
       go_simp
       exact hK _ _ ⟨⟨_,_,_,_,_,_,_,_,_,_,_,_,_,_,_,_,_,_,_,_,_,_,_,_,_,_,_,_,_,A5,N5,C5,M5,E5,A11,N11,C11,M11,E11,A12,N12,C12,M12,E12,_,_⟩,rfl,rfl,{ hR with hc:=hc,f8:=(fun _=>rfl) }⟩
      ·obtain rfl:b9 = false:=by simpa using hl9
       have hc:=hR.hc
       refine wpOp_step rfl fun K hK=>?_
       go_simp
       exact hK _ _ ⟨⟨_,_,_,_,_,_,_,_,_,_,_,_,_,_,_,_,_,_,_,_,_,_,_,_,_,_,_,_,_,A5,N5,C5,M5,E5,A11,N11,C11,M11,E11,A12,N12,C12,M12,E12,_,_⟩,rfl,rfl,{ hR with hc:=hc,f9:=(fun _=>rfl) }⟩
      ·obtain rfl:b10 = false:=by simpa using hl9
       obtain ⟨o9,ho9,hd9⟩:=(mem_ready.1 hi9).2
       cases ho9
       have e9:b9 = true:=hd9 ⟨9,.data⟩ (by simp) rfl
       subst e9
       have h9:=hR.f9 rfl
       subst h9
       have hc:=hR.hc
       have c9_0:=hc.st.cellAt (hc.old ⟨w1.heap.size,#[.slice B1 K1 D1,.slice B2 K2 D2,.slice x6_A9 x6_N9 x6_C9,.slice none 0 0,.slice B5 K5 D5,.bool br],111⟩ (by simp)).1 3 (.slice none 0 0) rfl
       simp only [] at c9_0
       refine wpOp_step rfl fun K hK=>?_
       go_simp
       exact hK _ _ ⟨⟨_,_,_,_,_,_,_,_,_,_,_,_,_,_,_,_,_,_,_,_,_,_,_,_,_,_,_,_,_,A5,N5,C5,M5,E5,A11,N11,C11,M11,E11,A12,N12,C12,M12,E12,_,_⟩,rfl,rfl,{ hR with hc:=hc,f10:=(fun _=>rfl) }⟩
      ·obtain rfl:b11 = false:=by simpa using hl9
       obtain ⟨o9,ho9,hd9⟩:=(mem_ready.1 hi9).2
       cases ho9
       have e6:b6 = true:=hd9 ⟨6,.data⟩ (by simp) rfl
       have e8:b8 = true:=hd9 ⟨8,.data⟩ (by simp) rfl
       have e10:b10 = true:=hd9 ⟨10,.data⟩ (by simp) rfl
       have e5:b5 = true:=hd9 ⟨5,.chain⟩ (by simp) rfl
       subst e6 e8 e10 e5
       have h9:=hR.f6 rfl
       subst h9
       have h9:=hR.f8 rfl
       subst h9
       have h9:=hR.f10 rfl
       subst h9
       have q5:=hR.f5 rfl
       obtain ⟨h9,q5m,q5z⟩:=q5
       subst h9
       have hc:=hR.hc
       obtain rfl:b12 = false:=by cases h:b12; rfl; exact Bool.noConfusion (hR.g12_11 h)
       simp only [cond_true,cond_false] at hc
       have HR:=hide hR
       clear hR
       refine wpOp_step rfl fun K hK=>?_
       go_simp
       go_wp2_with fail
       refine (W_sub hc.st x6_C9 0 (hc.st.ow (x6_A9,x6_N9,x6_C9,x6_M9) (hc.oso _ (by simp))).num (mine_nil _ 0).num).mono ?_
       rintro en w9 ⟨a9,n9,c9,m9,e9,rfl,hs9,hz,hz9⟩
       have hR:=unhide HR
       exact hK _ _ ⟨⟨_,_,_,_,_,_,_,_,_,_,_,_,_,_,_,_,_,_,_,_,_,_,_,_,_,_,_,_,_,A5,N5,C5,M5,E5,_,_,_,_,_,A12,N12,C12,M12,E12,_,_⟩,rfl,rfl,{ hR with hc:=(hc.call hs9 hz9 (fun y hy=>List.mem_cons_of_mem _ hy)),f5:=(fun h=>⟨(hR.f5 h).1,List.mem_cons_of_mem _ (hR.f5 h).2.1,(hR.f5 h).2.2⟩),f11:=(fun _=>⟨rfl,List.mem_cons_self ..,hz⟩),f12:=(fun h=>Bool.noConfusion (hR.g12_11 h)),f14:=(fun h=>Bool.noConfusion (hR.g14_11 h)),g11_5:=(fun _=>rfl),g12_11:=(fun _=>rfl),g14_11:=(fun _=>rfl) }⟩
      ·obtain rfl:b12 = false:=by simpa using hl9
       obtain ⟨o9,ho9,hd9⟩:=(mem_ready.1 hi9).2
       cases ho9
       have e0:b0 = true:=hd9 ⟨0,.data⟩ (by simp) rfl
       have e5:b5 = true:=hd9 ⟨5,.data⟩ (by simp) rfl
       have e11:b11 = true:=hd9 ⟨11,.data⟩ (by simp) rfl
       subst e0 e5 e11
       have h9:=hR.f0 rfl
       subst h9
       have q5:=hR.f5 rfl
       obtain ⟨h9,q5m,q5z⟩:=q5
       subst h9
       have q11:=hR.f11 rfl
       obtain ⟨h9,q11m,q11z⟩:=q11
       subst h9
       have hc:=hR.hc
       simp only [cond_true,cond_false] at hc
       have HR:=hide hR
       clear hR
       refine wpOp_step rfl fun K hK=>?_
       go_simp
       go_wp2_with fail
       refine (W_add hc.st C5 C11 (hc.st.ow _ q5m).num (hc.st.ow _ q11m).num).mono ?_
       rintro en w9 ⟨a9,n9,c9,m9,e9,rfl,hs9,hz,hz9⟩
       have hR:=unhide HR
       exact hK _ _ ⟨⟨_,_,_,_,_,_,_,_,_,_,_,_,_,_,_,_,_,_,_,_,_,_,_,_,_,_,_,_,_,A5,N5,C5,M5,E5,A11,N11,C11,M11,E11,_,_,_,_,_,_,_⟩,rfl,rfl,{ hR with hc:=(hc.call hs9 hz9 (fun y hy=>List.mem_cons_of_mem _ hy)),f5:=(fun h=>⟨(hR.f5 h).1,List.mem_cons_of_mem _ (hR.f5 h).2.1,(hR.f5 h).2.2⟩),f11:=(fun h=>⟨(hR.f11 h).1,List.mem_cons_of_mem _ (hR.f11 h).2.1,(hR.f11 h).2.2⟩),f12:=(fun _=>⟨rfl,List.mem_cons_self ..,hz⟩),f14:=(fun h=>Bool.noConfusion (hR.g14_12 h)),g12_5:=(fun _=>rfl),g12_11:=(fun _=>rfl),g14_12:=(fun _=>rfl) }⟩
      ·obtain rfl:b13 = false:=by simpa using hl9
       have hc:=hR.hc
       refine wpOp_step rfl fun K hK=>?_
       go_simp
       exact hK _ _ ⟨⟨_,_,_,_,_,_,_,_,_,_,_,_,_,_,_,_,_,_,_,_,_,_,_,_,_,_,_,_,_,A5,N5,C5,M5,E5,A11,N11,C11,M11,E11,A12,N12,C12,M12,E12,_,_⟩,rfl,rfl,{ hR with hc:=(hc.alloc #[.slice none 0 0] 27),f13:=(fun _=>AlV.self rfl hc.sz),f14:=(fun h=>Bool.noConfusion (hR.g14_13 h)),g14_13:=(fun _=>rfl) }⟩
      ·obtain rfl:b14 = false:=by simpa using hl9
       obtain ⟨o9,ho9,hd9⟩:=(mem_ready.1 hi9).2
       cases ho9
       have e12:b12 = true:=hd9 ⟨12,.data⟩ (by simp) rfl
       have e13:b13 = true:=hd9 ⟨13,.data⟩ (by simp) rfl
       subst e12 e13
       have q12:=hR.f12 rfl
       obtain ⟨h9,q12m,q12z⟩:=q12
       subst h9
       have hc:=hR.hc
       obtain ⟨g9,s9,h9,hg9,hm9⟩:=hR.f13 rfl
       subst h9
       have fz9:=hc.st.frozen hm9 0
       have cz9:=hc.st.cellAt hm9 0 s9 rfl
       simp only [] at fz9 cz9
       have hn9:∀ x,x∈([⟨w1.heap.size,#[.slice B1 K1 D1,.slice B2 K2 D2,.slice x6_A9 x6_N9 x6_C9,.slice none 0 0,.slice B5 K5 D5,.bool br],111⟩,⟨w3.heap.size,#[.slice x5_A3 x5_N3 x5_C3],27⟩,⟨w.heap.size+1,#[.bool false,.slice none 0 0,.slice none 0 0],29⟩]:List En)→x.b≠g9:=fun x hx=>by have:=(hc.old x hx).2; omega
       refine wpOp_step rfl fun K hK=>?_
       go_simp
       exact hK _ _ ⟨⟨_,_,_,_,_,_,_,_,_,_,_,_,_,_,_,_,_,_,_,_,_,_,_,_,_,_,_,_,_,A5,N5,C5,M5,E5,A11,N11,C11,M11,E11,A12,N12,C12,M12,E12,_,_⟩,rfl,rfl,{ hR with hc:=(hc.store hm9 (by have:=hc.w0s; omega) hn9 0 (.slice A12 N12 C12) (by simp)),f13:=(fun _=>AlV.self rfl hg9),f14:=(fun _=>⟨g9,_,rfl,hg9,rfl,List.mem_cons_self ..⟩),g14_13:=(fun _=>rfl),g14_12:=(fun _=>rfl),g14_5:=(fun _=>hR.g12_5 rfl),g14_11:=(fun _=>hR.g12_11 rfl) }⟩
     ·rintro l act Wq7 ⟨⟨b0,b1,b2,b3,b4,b5,b6,b7,b8,b9,b10,b11,b12,b13,b14,v0,v1,v2,v3,v4,v5,v6,v7,v8,v9,v10,v11,v12,v13,x7_A5,x7_N5,x7_C5,x7_M5,x7_E5,x7_A11,x7_N11,x7_C11,x7_M11,x7_E11,x7_A12,x7_N12,x7_C12,x7_M12,x7_E12,bs9,os9⟩,rfl,rfl,hR⟩ hr9
      obtain ⟨hc,f0,f1,f2,f3,f4,f5,f6,f7,f8,f9,f10,f11,f12,f13,f14,g11_5,g12_5,g12_11,g14_13,g14_12,g14_5,g14_11⟩:=hR
      have eall:=all_done hr9 (by kernel_rfl) rfl
      obtain rfl:b0 = true:=eall 0 (by decide)
      obtain rfl:b1 = true:=eall 1 (by decide)
      obtain rfl:b2 = true:=eall 2 (by decide)
      obtain rfl:b3 = true:=eall 3 (by decide)
      obtain rfl:b4 = true:=eall 4 (by decide)
      obtain rfl:b5 = true:=eall 5 (by decide)
      obtain rfl:b6 = true:=eall 6 (by decide)
      obtain rfl:b7 = true:=eall 7 (by decide)
      obtain rfl:b8 = true:=eall 8 (by decide)
      obtain rfl:b9 = true:=eall 9 (by decide)
      obtain rfl:b10 = true:=eall 10 (by decide)
      obtain rfl:b11 = true:=eall 11 (by decide)
      obtain rfl:b12 = true:=eall 12 (by decide)
      obtain rfl:b13 = true:=eall 13 (by decide)
      obtain rfl:b14 = true:=eall 14 (by decide)
      clear hr9 eall
      have h9:=f0 rfl
      subst h9
      have h9:=f1 rfl
      subst h9
      have h9:=f2 rfl
      subst h9
      have h9:=f3 rfl
      subst h9
      have h9:=f4 rfl
      subst h9
      obtain ⟨h9,q5m,qx7_5⟩:=f5 rfl
      subst h9
      have h9:=f6 rfl
      subst h9
      have h9:=f7 rfl
      subst h9
      have h9:=f8 rfl
      subst h9
      have h9:=f9 rfl
      subst h9
      have h9:=f10 rfl
      subst h9
      obtain ⟨h9,q11m,qx7_11⟩:=f11 rfl
      subst h9
      obtain ⟨h9,q12m,qx7_12⟩:=f12 rfl
      subst h9
      obtain ⟨x7_g13,s9,h9,hg13,hs9,hm13⟩:=f14 rfl
      subst h9
      obtain rfl:s9 = .slice x7_A12 x7_N12 x7_C12:=by simpa using hs9.symm
      clear hs9
      simp only [cond_true] at hc
      have hbs9:∀ x,x∈([⟨x7_g13,#[.slice x7_A12 x7_N12 x7_C12],27⟩,⟨w1.heap.size,#[.slice B1 K1 D1,.slice B2 K2 D2,.slice x6_A9 x6_N9 x6_C9,.slice none 0 0,.slice B5 K5 D5,.bool br],111⟩,⟨w3.heap.size,#[.slice x5_A3 x5_N3 x5_C3],27⟩,⟨w.heap.size+1,#[.bool false,.slice none 0 0,.slice none 0 0],29⟩]:List En)→x∈bs9:=by
       intro x hx
       rcases List.mem_cons.1 hx with rfl|hx
       ·exact hm13
       rcases List.mem_cons.1 hx with rfl|hx
       ·exact (hc.old _ (by simp)).1
       rcases List.mem_cons.1 hx with rfl|hx
       ·exact (hc.old _ (by simp)).1
       rcases List.mem_cons.1 hx with rfl|hx
       ·exact (hc.old _ (by simp)).1
       exact absurd hx List.not_mem_nil
      have hos9:∀ x,x∈([(x7_A5,x7_N5,x7_C5,x7_M5),(x7_A11,x7_N11,x7_C11,x7_M11),(x7_A12,x7_N12,x7_C12,x7_M12),(x6_A9,x6_N9,x6_C9,x6_M9),(x5_A3,x5_N3,x5_C3,x5_M3),(B5,K5,D5,V5),(B2,K2,D2,V2),(B1,K1,D1,V1)]:Os)→x∈os9:=by
       intro x hx
       rcases List.mem_cons.1 hx with rfl|hx
       ·exact q5m
       rcases List.mem_cons.1 hx with rfl|hx
       ·exact q11m
       rcases List.mem_cons.1 hx with rfl|hx
       ·exact q12m
       rcases List.mem_cons.1 hx with rfl|hx
       ·exact hc.oso _ (by simp)
       rcases List.mem_cons.1 hx with rfl|hx
       ·exact hc.oso _ (by simp)
       rcases List.mem_cons.1 hx with rfl|hx
       ·exact hc.oso _ (by simp)
       rcases List.mem_cons.1 hx with rfl|hx
       ·exact hc.oso _ (by simp)
       rcases List.mem_cons.1 hx with rfl|hx
       ·exact hc.oso _ (by simp)
       exact absurd hx List.not_mem_nil
      have hS:=hc.st.sub hbs9 (fun x hx=>hx) hos9
      have hsz9:=hc.sz
      rw [hS9z,hsW9] at hsz9
      have hlx7_g13:=hg13
      rw [hS9z,hsW9] at hlx7_g13
      have hux7_g13:=block_lt (hc.st.bx _ hm13).1
      simp only [] at hux7_g13
      clear hbs9 hos9 hc f0 f1 f2 f3 f4 f5 f6 f7 f8 f9 f10 f11 f12 f13 f14 g11_5 g12_5 g12_11 g14_13 g14_12 g14_5 g14_11
      clear q5m q11m q12m hm13 hg13
      have hz7:=hsz9
      clear hsz9 hS9z hS9 hC9 hsW9
      have Qx7_5:=hide qx7_5
      clear qx7_5
      have Qx7_11:=hide qx7_11
      clear qx7_11
      have Qx7_12:=hide qx7_12
      clear qx7_12
      obtain ⟨⟨k0_0,-⟩,-⟩:=hS.cz ⟨x7_g13,#[.slice x7_A12 x7_N12 x7_C12],27⟩ (by simp)
      obtain ⟨⟨k1_0,k1_1,k1_2,k1_3,k1_4,k1_5,-⟩,-⟩:=hS.cz ⟨w1.heap.size,#[.slice B1 K1 D1,.slice B2 K2 D2,.slice x6_A9 x6_N9 x6_C9,.slice none 0 0,.slice B5 K5 D5,.bool br],111⟩ (by simp)
      obtain ⟨⟨k2_0,k2_1,k2_2,-⟩,-⟩:=hS.cz ⟨w.heap.size+1,#[.bool false,.slice none 0 0,.slice none 0 0],29⟩ (by simp)
      simp only [] at k0_0 k1_0 k1_1 k1_2 k1_3 k1_4 k1_5 k2_0 k2_1 k2_2
      go_wp2_with fail
      clear k0_0 k1_0 k1_1 k1_2 k1_3 k1_4 k1_5 k2_0 k2_1 k2_2
      refine (W_frac hS s x7_A12 B5 x7_N12 K5 x7_C12 D5).mono ?_
      clear hS; rintro en Wz ⟨⟨s7,b7,k7,l7,b8,k8,l8,r7,rfl,q7⟩,hS,hzz⟩
      have Q7:=hide q7
      clear q7
      obtain ⟨⟨k0_0,k0_1,k0_2,-⟩,z0⟩:=hS.cz ⟨w.heap.size+1,#[.bool false,.slice none 0 0,.slice none 0 0],29⟩ (by simp)
      have z0_0:=z0 0
      have z0_1:=z0 1
      have z0_2:=z0 2
      clear z0
      simp only [] at k0_0 z0_0 k0_1 z0_1 k0_2 z0_2
      go_wp2
      have hend:=ap_lt hd1 hd2 hc1 hc2 (unhide QS) (unhide HLW) (Wg:=V1) (Wl:=V2) (Ag:=V3) (Al:=V4) rfl rfl rfl rfl (unhide HLT) (unhide Q3) (unhide Qx5_3) (unhide Qx6_6) (unhide Qx6_9) (unhide Qx7_5) (unhide Qx7_11) (unhide Qx7_12)
      have q7:=unhide Q7
      replace hS:=hS.sub (bs':=[⟨w.heap.size+1,#[.bool false,.slice none 0 0,.slice none 0 0],29⟩]) (ms':=[]) (by intro x hx; rcases List.mem_cons.1 hx with rfl|hx; simp; exact absurd hx List.not_mem_nil) (by intro x hx; exact absurd hx List.not_mem_nil) (fun x hx=>hx)
      have u2:=hS.cellAt (x:=⟨w.heap.size+1,#[.bool false,.slice none 0 0,.slice none 0 0],29⟩) (by simp) 0 (.bool false) rfl
      have y2:=hS.frozen (x:=⟨w.heap.size+1,#[.bool false,.slice none 0 0,.slice none 0 0],29⟩) (by simp) 0
      simp only [] at u2 y2
      replace hS:=hS.put (x:=⟨w.heap.size+1,#[.bool false,.slice none 0 0,.slice none 0 0],29⟩) (by simp) (by simp only []; omega) 0 (.bool s7) (by simp) [⟨w.heap.size+1,#[.bool s7,.slice none 0 0,.slice none 0 0],29⟩] (by intro y hy; rcases List.mem_cons.1 hy with rfl|hy; exact Or.inl rfl; exact absurd hy List.not_mem_nil)
      have u3:=hS.cellAt (x:=⟨w.heap.size+1,#[.bool s7,.slice none 0 0,.slice none 0 0],29⟩) (by simp) 1 (.slice none 0 0) rfl
      have y3:=hS.frozen (x:=⟨w.heap.size+1,#[.bool s7,.slice none 0 0,.slice none 0 0],29⟩) (by simp) 1
      simp only [] at u3 y3
      replace hS:=hS.put (x:=⟨w.heap.size+1,#[.bool s7,.slice none 0 0,.slice none 0 0],29⟩) (by simp) (by simp only []; omega) 1 (.slice b7 k7 l7) (by simp) [⟨w.heap.size+1,#[.bool s7,.slice b7 k7 l7,.slice none 0 0],29⟩] (by intro y hy; rcases List.mem_cons.1 hy with rfl|hy; exact Or.inl rfl; exact absurd hy List.not_mem_nil)
      have u4:=hS.cellAt (x:=⟨w.heap.size+1,#[.bool s7,.slice b7 k7 l7,.slice none 0 0],29⟩) (by simp) 2 (.slice none 0 0) rfl
      have y4:=hS.frozen (x:=⟨w.heap.size+1,#[.bool s7,.slice b7 k7 l7,.slice none 0 0],29⟩) (by simp) 2
      simp only [] at u4 y4
      replace hS:=hS.put (x:=⟨w.heap.size+1,#[.bool s7,.slice b7 k7 l7,.slice none 0 0],29⟩) (by simp) (by simp only []; omega) 2 (.slice b8 k8 l8) (by simp) [⟨w.heap.size+1,#[.bool s7,.slice b7 k7 l7,.slice b8 k8 l8],29⟩] (by intro y hy; rcases List.mem_cons.1 hy with rfl|hy; exact Or.inl rfl; exact absurd hy List.not_mem_nil)
      have hbel:=hS.fr
      refine bodyPost_ret (v:=.tuple #[RatV s7 b7 k7 l7 b8 k8 l8,.int .i64 r7]) (by simp [results,Tryz.results51,go_sem,RatV,k0_0,k0_1,k0_2]) rfl ⟨?_,hbel⟩
      have o1:=hS.ow (x7_A12,x7_N12,x7_C12,x7_M12) (by simp)
      have o2:=hS.ow (B5,K5,D5,V5) (by simp)
      rcases q7 with ⟨h0,rfl,rfl,rfl,rfl,rfl,rfl,rfl,rfl⟩|⟨h0,rfl,rfl,rfl,rfl,rfl,rfl,rfl,rfl⟩
      ·obtain ⟨e1,e2⟩:=hend.1 h0
       have hz1:=o1.num.zero
       simp only [] at o1 o2 hz1
       rw [e1] at o1 hz1
       rw [e2] at o2
       refine Or.inl ⟨_,_,_,_,_,_,?_,o1,o2⟩
       rw [show apSign m1 d1 m2 d2 s t = s from if_neg (fun hx=>Bool.noConfusion ((hend.2.2 h0).2 hx))]
       rw [show decide (k7 = 0) = decide (_ = 0) from decide_eq_decide.2 hz1]
       all_goals rfl
      ·obtain ⟨e1,e2⟩:=hend.2.1 h0
       exact Or.inr ⟨by rw [e1],e2⟩
     ·simp
     ·exact ⟨⟨false,false,false,false,false,false,false,false,false,false,false,false,false,false,false,undef,undef,undef,undef,undef,undef,undef,undef,undef,undef,undef,undef,undef,undef,none,0,0,0,0,none,0,0,0,0,none,0,0,0,0,_,_⟩,rfl,rfl,⟨hC9,nb,nb,nb,nb,nb,nb,nb,nb,nb,nb,nb,nb,nb,nb,nb,nb,nb,nb,nb,nb,nb,nb⟩⟩
    ·simp
    ·exact ⟨⟨false,false,false,false,false,false,false,false,false,false,false,false,undef,undef,undef,undef,undef,undef,undef,undef,undef,undef,undef,none,0,0,0,0,none,0,0,0,0,_,_⟩,rfl,rfl,⟨hC9,nb,nb,nb,nb,nb,nb,nb,nb,nb,nb,nb,(fun _=>by simp),nb,nb,nb,nb,nb,nb,nb⟩⟩
   ·simp
   ·exact ⟨⟨false,false,false,false,false,undef,undef,undef,undef,none,0,0,none,0,0,0,0,_,_⟩,rfl,rfl,⟨hC9,nb,nb,nb,nb,(fun _=>by simp),nb,nb,nb,nb,nb⟩⟩
  ·obtain ⟨r0,hr0,hr1⟩:∃ r,cmpI V3 V4 = r∧0≤r:=by refine ⟨_,rfl,?_⟩; unfold cmpI; rw [if_neg hlt]; split <;> omega
   rw [hr0]
   clear hr0
   have HLT:=hide hlt
   clear hlt
   have HLW:=hide hlow
   clear hlow
   go_wp2_with fail
   replace hS:=hS.sub (bs':=[⟨w3.heap.size,#[.slice yA3 yN3 yC3],27⟩,⟨w1.heap.size,#[.slice B1 K1 D1,.slice B2 K2 D2,.slice B3 K3 D3,.slice B4 K4 D4,.slice B5 K5 D5,.bool br],111⟩,⟨w.heap.size+1,#[.bool false,.slice none 0 0,.slice none 0 0],29⟩]) (ms':=[]) (os':=[(yA3,yN3,yC3,yM3),(B5,K5,D5,V5),(B4,K4,D4,V4),(B3,K3,D3,V3),(B2,K2,D2,V2),(B1,K1,D1,V1)]) (by intro x hx; rcases List.mem_cons.1 hx with rfl|hx; (simp); rcases List.mem_cons.1 hx with rfl|hx; (simp); rcases List.mem_cons.1 hx with rfl|hx; (simp); exact absurd hx List.not_mem_nil) (by intro x hx; exact absurd hx List.not_mem_nil) (by intro x hx; rcases List.mem_cons.1 hx with rfl|hx; (simp); rcases List.mem_cons.1 hx with rfl|hx; (simp); rcases List.mem_cons.1 hx with rfl|hx; (simp); rcases List.mem_cons.1 hx with rfl|hx; (simp); rcases List.mem_cons.1 hx with rfl|hx; (simp); rcases List.mem_cons.1 hx with rfl|hx; (simp); exact absurd hx List.not_mem_nil)
   refine wp_region_any (by kernel_rfl) ?_
   change wpAny _ _ _ _ _ _ _ (World.drew _)
   have hS9:=hS.drew
   have hsW9:(World.drew w4).heap.size = w4.heap.size:=by first|rfl|simp
   generalize World.drew w4 = Wd at hS9 hsW9 ⊢
   obtain ⟨S9,hS9z⟩:∃ x,x = Wd.heap.size:=⟨_,rfl⟩
   have hC9:=Rc.start (bs:=[⟨w3.heap.size,#[.slice yA3 yN3 yC3],27⟩,⟨w1.heap.size,#[.slice B1 K1 D1,.slice B2 K2 D2,.slice B3 K3 D3,.slice B4 K4 D4,.slice B5 K5 D5,.bool br],111⟩,⟨w.heap.size+1,#[.bool false,.slice none 0 0,.slice none 0 0],29⟩]) hS9 (by simp)
   rw [← hS9z] at hC9
   refine wpAny_inv (fun l act w'=>∃ σ,ApaHG5I w p s t a1 a2 a3 a4 n1 n2 n3 n4 c1 c2 c3 c4 B1 B2 B3 B4 B5 K1 K2 K3 K4 K5 D1 D2 D3 D4 D5 V1 V2 V3 V4 V5 w1 br yA3 yN3 yC3 yM3 yE3 w3 r0 S9 l act w' σ) ?_ ?_ _ _ _ _ ?_ ?_
   ·intro l act w' i9 hI9 hi9 hl9
    have hin9:i9 < 15:=by
     by_cases h:i9 < 15
     ·exact h
     ·obtain ⟨⟨⟩,rfl,_⟩:=hI9
      rw [Array.getElem?_eq_none (by simp; omega)] at hl9; cases hl9
    have hcase:i9 = 0∨i9 = 1∨i9 = 2∨i9 = 3∨i9 = 4∨i9 = 5∨i9 = 6∨i9 = 7∨i9 = 8∨i9 = 9∨i9 = 10∨i9 = 11∨i9 = 12∨i9 = 13∨i9 = 14:=by omega
    clear hin9
    obtain ⟨⟨b0,b1,b2,b3,b4,b5,b6,b7,b8,b9,b10,b11,b12,b13,b14,v0,v1,v2,v3,v4,v5,v6,v7,v8,v9,v10,v11,v12,v13,A5,N5,C5,M5,E5,A11,N11,C11,M11,E11,A12,N12,C12,M12,E12,bs9,os9⟩,rfl,rfl,hR⟩:=hI9
    rcases hcase with rfl|rfl|rfl|rfl|rfl|rfl|rfl|rfl|rfl|rfl|rfl|rfl|rfl|rfl|rfl
    ·obtain rfl:b0 = false:=by simpa using hl9
     have hc:=hR.hc
     refine wpOp_step rfl fun K hK=>?_
     go_simp
     exact hK _ _ ⟨⟨_,_,_,_,_,_,_,_,_,_,_,_,_,_,_,_,_,_,_,_,_,_,_,_,_,_,_,_,_,A5,N5,C5,M5,E5,A11,N11,C11,M11,E11,A12,N12,C12,M12,E12,_,_⟩,rfl,rfl,{ hR with hc:=hc,f0:=(fun _=>rfl) }⟩
    ·obtain rfl:b1 = false:=by simpa using hl9
     have hc:=hR.hc
     refine wpOp_step rfl fun K hK=>?_
     go_simp
     exact hK _ _ ⟨⟨_,_,_,_,_,_,_,_,_,_,_,_,_,_,_,_,_,_,_,_,_,_,_,_,_,_,_,_,_,A5,N5,C5,M5,E5,A11,N11,C11,M11,E11,A12,N12,C12,M12,E12,_,_⟩,rfl,rfl,{ hR with hc:=hc,f1:=(fun _=>rfl) }⟩
    ·obtain rfl:b2 = false:=by simpa using hl9
     have hc:=hR.hc
     have c9_0:=hc.st.cellAt (hc.old ⟨w3.heap.size,#[.slice yA3 yN3 yC3],27⟩ (by simp)).1 0 (.slice yA3 yN3 yC3) rfl
     simp only [] at c9_0
     refine wpOp_step rfl fun K hK=>?_
     go_simp
     exact hK _ _ ⟨⟨_,_,_,_,_,_,_,_,_,_,_,_,_,_,_,_,_,_,_,_,_,_,_,_,_,_,_,_,_,A5,N5,C5,M5,E5,A11,N11,C11,M11,E11,A12,N12,C12,M12,E12,_,_⟩,rfl,rfl,{ hR with hc:=hc,f2:=(fun _=>rfl) }⟩
    ·obtain rfl:b3 = false:=by simpa using hl9
     have hc:=hR.hc
     refine wpOp_step rfl fun K hK=>?_
     go_simp
     exact hK _ _ ⟨⟨_,_,_,_,_,_,_,_,_,_,_,_,_,_,_,_,_,_,_,_,_,_,_,_,_,_,_,_,_,A5,N5,C5,M5,E5,A11,N11,C11,M11,E11,A12,N12,C12,M12,E12,_,_⟩,rfl,rfl,{ hR with hc:=hc,f3:=(fun _=>rfl) }⟩
    ·obtain rfl:b4 = false:=by simpa using hl9
     obtain ⟨o9,ho9,hd9⟩:=(mem_ready.1 hi9).2
     cases ho9
     have e3:b3 = true:=hd9 ⟨3,.data⟩ (by simp) rfl
     subst e3
     have h9:=hR.f3 rfl
     subst h9
     have hc:=hR.hc
     have c9_0:=hc.st.cellAt (hc.old ⟨w1.heap.size,#[.slice B1 K1 D1,.slice B2 K2 D2,.slice B3 K3 D3,.slice B4 K4 D4,.slice B5 K5 D5,.bool br],111⟩ (by simp)).1 4 (.slice B5 K5 D5) rfl
     simp only [] at c9_0
     refine wpOp_step rfl fun K hK=>?_
     go_simp
     exact hK _ _ ⟨⟨_,_,_,_,_,_,_,_,_,_,_,_,_,_,_,_,_,_,_,_,_,_,_,_,_,_,_,_,_,A5,N5,C5,M5,E5,A11,N11,C11,M11,E11,A12,N12,C12,M12,E12,_,_⟩,rfl,rfl,{ hR with hc:=hc,f4:=(fun _=>rfl) }⟩
    ·obtain rfl:b5 = false:=by simpa using hl9
     obtain ⟨o9,ho9,hd9⟩:=(mem_ready.1 hi9).2
     cases ho9
     have e1:b1 = true:=hd9 ⟨1,.data⟩ (by simp) rfl
     have e2:b2 = true:=hd9 ⟨2,.data⟩ (by simp) rfl
     have e4:b4 = true:=hd9 ⟨4,.data⟩ (by simp) rfl
     subst e1 e2 e4
     have h9:=hR.f1 rfl
     subst h9
     have h9:=hR.f2 rfl
     subst h9
     have h9:=hR.f4 rfl
     subst h9
     have hc:=hR.hc
     obtain rfl:b11 = false:=by cases h:b11; rfl; exact Bool.noConfusion (hR.g11_5 h)
     obtain rfl:b12 = false:=by cases h:b12; rfl; exact Bool.noConfusion (hR.g12_11 h)
     simp only [cond_false] at hc
     have HR:=hide hR
     clear hR
     refine wpOp_step rfl fun K hK=>?_
     go_simp
     go_wp2_with fail
     refine (W_mul hc.st yC3 D5 (hc.st.ow (yA3,yN3,yC3,yM3) (hc.oso _ (by simp))).num (hc.st.ow (B5,K5,D5,V5) (hc.oso _ (by simp))).num).mono ?_
     rintro en w9 ⟨a9,n9,c9,m9,e9,rfl,hs9,hz,hz9⟩
     have hR:=unhide HR
     exact hK _ _ ⟨⟨_,_,_,_,_,_,_,_,_,_,_,_,_,_,_,_,_,_,_,_,_,_,_,_,_,_,_,_,_,_,_,_,_,_,A11,N11,C11,M11,E11,A12,N12,C12,M12,E12,_,_⟩,rfl,rfl,{ hR with hc:=(hc.call hs9 hz9 (fun y hy=>List.mem_cons_of_mem _ hy)),f5:=(fun _=>⟨rfl,List.mem_cons_self ..,hz⟩),f11:=(fun h=>Bool.noConfusion (hR.g11_5 h)),f12:=(fun h=>Bool.noConfusion (hR.g12_5 h)),f14:=(fun h=>Bool.noConfusion (hR.g14_5 h)),g11_5:=(fun _=>rfl),g12_5:=(fun _=>rfl),g14_5:=(fun _=>rfl) }⟩
    ·obtain rfl:b6 = false:=by simpa using hl9
     have hc:=hR.hc
     refine wpOp_step rfl fun K hK=>?_
     go_simp
     exact hK _ _ ⟨⟨_,_,_,_,_,_,_,_,_,_,_,_,_,_,_,_,_,_,_,_,_,_,_,_,_,_,_,_,_,A5,N5,C5,M5,E5,A11,N11,C11,M11,E11,A12,N12,C12,M12,E12,_,_⟩,rfl,rfl,{ hR with hc:=hc,f6:=(fun _=>rfl) }⟩
    ·obtain rfl:b7 = false:=by simpa using hl9
     have hc:=hR.hc
     refine wpOp_step rfl fun K hK=>?_
     go_simp
     exact hK _ _ ⟨⟨_,_,_,_,_,_,_,_,_,_,_,_,_,_,_,_,_,_,_,_,_,_,_,_,_,_,_,_,_,A5,N5,C5,M5,E5,A11,N11,C11,M11,E11,A12,N12,C12,M12,E12,_,_⟩,rfl,rfl,{ hR with hc:=hc,f7:=(fun _=>rfl) }⟩
    ·obtain rfl:b8 = false:=by simpa using hl9
     obtain ⟨o9,ho9,hd9⟩:=(mem_ready.1 hi9).2
     cases ho9
     have e7:b7 = true:=hd9 ⟨7,.data⟩ (by simp) rfl
     subst e7
     have h9:=hR.f7 rfl
     subst h9
     have hc:=hR.hc
     have c9_0:=hc.st.cellAt (hc.old ⟨w1.heap.size,#[.slice B1 K1 D1,.slice B2 K2 D2,.slice B3 K3 D3,.slice B4 K4 D4,.slice B5 K5 D5,.bool br],111⟩ (by simp)).1 2 (.slice B3 K3 D3) rfl
     simp only [] at c9_0
     refine wpOp_step rfl fun K hK=>?_
     go_simp
     exact hK _ _ ⟨⟨_,_,_,_,_,_,_,_,_,_,_,_,_,_,_,_,_,_,_,_,_,_,_,_,_,_,_,_,_,A5,N5,C5,M5,E5,A11,N11,C11,M11,E11,A12,N12,C12,M12,E12,_,_⟩,rfl,rfl,{ hR with hc:=hc,f8:=(fun _=>rfl) }⟩
    ·obtain rfl:b9 = false:=by simpa using hl9
     have hc:=hR.hc
     refine wpOp_step rfl fun K hK=>?_
     go_simp
     exact hK _ _ ⟨⟨_,_,_,_,_,_,_,_,_,_,_,_,_,_,_,_,_,_,_,_,_,_,_,_,_,_,_,_,_,A5,N5,C5,M5,E5,A11,N11,C11,M11,E11,A12,N12,C12,M12,E12,_,_⟩,rfl,rfl,{ hR with hc:=hc,f9:=(fun _=>rfl) }⟩
    ·obtain rfl:b10 = false:=by simpa using hl9
     obtain ⟨o9,ho9,hd9⟩:=(mem_ready.1 hi9).2
     cases ho9
     have e9:b9 = true:=hd9 ⟨9,.data⟩ (by simp) rfl
     subst e9
     have h9:=hR.f9 rfl
     subst h9
     have hc:=hR.hc
     have c9_0:=hc.st.cellAt (hc.old ⟨w1.heap.size,#[.slice B1 K1 D1,.slice B2 K2 D2,.slice B3 K3 D3,.slice B4 K4 D4,.slice B5 K5 D5,.bool br],111⟩ (by simp)).1 3 (.slice B4 K4 D4) rfl
     simp only [] at c9_0
     refine wpOp_step rfl fun K hK=>?_
     go_simp
     exact hK _ _ ⟨⟨_,_,_,_,_,_,_,_,_,_,_,_,_,_,_,_,_,_,_,_,_,_,_,_,_,_,_,_,_,A5,N5,C5,M5,E5,A11,N11,C11,M11,E11,A12,N12,C12,M12,E12,_,_⟩,rfl,rfl,{ hR with hc:=hc,f10:=(fun _=>rfl) }⟩
    ·obtain rfl:b11 = false:=by simpa using hl9
     obtain ⟨o9,ho9,hd9⟩:=(mem_ready.1 hi9).2
     cases ho9
     have e6:b6 = true:=hd9 ⟨6,.data⟩ (by simp) rfl
     have e8:b8 = true:=hd9 ⟨8,.data⟩ (by simp) rfl
     have e10:b10 = true:=hd9 ⟨10,.data⟩ (by simp) rfl
     have e5:b5 = true:=hd9 ⟨5,.chain⟩ (by simp) rfl
     subst e6 e8 e10 e5
     have h9:=hR.f6 rfl
     subst h9
     have h9:=hR.f8 rfl
     subst h9
     have h9:=hR.f10 rfl
     subst h9
     have q5:=hR.f5 rfl
     obtain ⟨h9,q5m,q5z⟩:=q5
     subst h9
     have hc:=hR.hc
     obtain rfl:b12 = false:=by cases h:b12; rfl; exact Bool.noConfusion (hR.g12_11 h)
     simp only [cond_true,cond_false] at hc
     have HR:=hide hR
     clear hR
     refine wpOp_step rfl fun K hK=>?_
     go_simp
     go_wp2_with fail
     refine (W_sub hc.st D3 D4 (hc.st.ow (B3,K3,D3,V3) (hc.oso _ (by simp))).num (hc.st.ow (B4,K4,D4,V4) (hc.oso _ (by simp))).num).mono ?_
     rintro en w9 ⟨a9,n9,c9,m9,e9,rfl,hs9,hz,hz9⟩
     have hR:=unhide HR
     exact hK _ _ ⟨⟨_,_,_,_,_,_,_,_,_,_,_,_,_,_,_,_,_,_,_,_,_,_,_,_,_,_,_,_,_,A5,N5,C5,M5,E5,_,_,_,_,_,A12,N12,C12,M12,E12,_,_⟩,rfl,rfl,{ hR with hc:=(hc.call hs9 hz9 (fun y hy=>List.mem_cons_of_mem _ hy)),f5:=(fun h=>⟨(hR.f5 h).1,List.mem_cons_of_mem _ (hR.f5 h).2.1,(hR.f5 h).2.2⟩),f11:=(fun _=>⟨rfl,List.mem_cons_self ..,hz⟩),f12:=(fun h=>Bool.noConfusion (hR.g12_11 h)),f14:=(fun h=>Bool.noConfusion (hR.g14_11 h)),g11_5:=(fun _=>rfl),g12_11:=(fun _=>rfl),g14_11:=(fun _=>rfl) }⟩
    ·obtain rfl:b12 = false:=by simpa using hl9
     obtain ⟨o9,ho9,hd9⟩:=(mem_ready.1 hi9).2
     cases ho9
     have e0:b0 = true:=hd9 ⟨0,.data⟩ (by simp) rfl
     have e5:b5 = true:=hd9 ⟨5,.data⟩ (by simp) rfl
     have e11:b11 = true:=hd9 ⟨11,.data⟩ (by simp) rfl
     subst e0 e5 e11
     have h9:=hR.f0 rfl
     subst h9
     have q5:=hR.f5 rfl
     obtain ⟨h9,q5m,q5z⟩:=q5
     subst h9
     have q11:=hR.f11 rfl
     obtain ⟨h9,q11m,q11z⟩:=q11
     subst h9
     have hc:=hR.hc
     simp only [cond_true,cond_false] at hc
     have HR:=hide hR
     clear hR
     refine wpOp_step rfl fun K hK=>?_
     go_simp
     go_wp2_with fail
     refine (W_add hc.st C5 C11 (hc.st.ow _ q5m).num (hc.st.ow _ q11m).num).mono ?_
     rintro en w9 ⟨a9,n9,c9,m9,e9,rfl,hs9,hz,hz9⟩
     have hR:=unhide HR
     exact hK _ _ ⟨⟨_,_,_,_,_,_,_,_,_,_,_,_,_,_,_,_,_,_,_,_,_,_,_,_,_,_,_,_,_,A5,N5,C5,M5,E5,A11,N11,C11,M11,E11,_,_,_,_,_,_,_⟩,rfl,rfl,{ hR with hc:=(hc.call hs9 hz9 (fun y hy=>List.mem_cons_of_mem _ hy)),f5:=(fun h=>⟨(hR.f5 h).1,List.mem_cons_of_mem _ (hR.f5 h).2.1,(hR.f5 h).2.2⟩),f11:=(fun h=>⟨(hR.f11 h).1,List.mem_cons_of_mem _ (hR.f11 h).2.1,(hR.f11 h).2.2⟩),f12:=(fun _=>⟨rfl,List.mem_cons_self ..,hz⟩),f14:=(fun h=>Bool.noConfusion (hR.g14_12 h)),g12_5:=(fun _=>rfl),g12_11:=(fun _=>rfl),g14_12:=(fun _=>rfl) }⟩
    ·obtain rfl:b13 = false:=by simpa using hl9
     have hc:=hR.hc
     refine wpOp_step rfl fun K hK=>?_
     go_simp
     exact hK _ _ ⟨⟨_,_,_,_,_,_,_,_,_,_,_,_,_,_,_,_,_,_,_,_,_,_,_,_,_,_,_,_,_,A5,N5,C5,M5,E5,A11,N11,C11,M11,E11,A12,N12,C12,M12,E12,_,_⟩,rfl,rfl,{ hR with hc:=(hc.alloc #[.slice none 0 0] 27),f13:=(fun _=>AlV.self rfl hc.sz),f14:=(fun h=>Bool.noConfusion (hR.g14_13 h)),g14_13:=(fun _=>rfl) }⟩
    ·obtain rfl:b14 = false:=by simpa using hl9
     obtain ⟨o9,ho9,hd9⟩:=(mem_ready.1 hi9).2
     cases ho9
     have e12:b12 = true:=hd9 ⟨12,.data⟩ (by simp) rfl
     have e13:b13 = true:=hd9 ⟨13,.data⟩ (by simp) rfl
     subst e12 e13
     have q12:=hR.f12 rfl
     obtain ⟨h9,q12m,q12z⟩:=q12
     subst h9
     have hc:=hR.hc
     obtain ⟨g9,s9,h9,hg9,hm9⟩:=hR.f13 rfl
     subst h9
     have fz9:=hc.st.frozen hm9 0
     have cz9:=hc.st.cellAt hm9 0 s9 rfl
     simp only [] at fz9 cz9
     have hn9:∀ x,x∈([⟨w3.heap.size,#[.slice yA3 yN3 yC3],27⟩,⟨w1.heap.size,#[.slice B1 K1 D1,.slice B2 K2 D2,.slice B3 K3 D3,.slice B4 K4 D4,.slice B5 K5 D5,.bool br],111⟩,⟨w.heap.size+1,#[.bool false,.slice none 0 0,.slice none 0 0],29⟩]:List En)→x.b≠g9:=fun x hx=>by have:=(hc.old x hx).2; omega
     refine wpOp_step rfl fun K hK=>?_
     go_simp
     exact hK _ _ ⟨⟨_,_,_,_,_,_,_,_,_,_,_,_,_,_,_,_,_,_,_,_,_,_,_,_,_,_,_,_,_,A5,N5,C5,M5,E5,A11,N11,C11,M11,E11,A12,N12,C12,M12,E12,_,_⟩,rfl,rfl,{ hR with hc:=(hc.store hm9 (by have:=hc.w0s; omega) hn9 0 (.slice A12 N12 C12) (by simp)),f13:=(fun _=>AlV.self rfl hg9),f14:=(fun _=>⟨g9,_,rfl,hg9,rfl,List.mem_cons_self ..⟩),g14_13:=(fun _=>rfl),g14_12:=(fun _=>rfl),g14_5:=(fun _=>hR.g12_5 rfl),g14_11:=(fun _=>hR.g12_11 rfl) }⟩
   ·rintro l act Wq5 ⟨⟨b0,b1,b2,b3,b4,b5,b6,b7,b8,b9,b10,b11,b12,b13,b14,v0,v1,v2,v3,v4,v5,v6,v7,v8,v9,v10,v11,v12,v13,x5_A5,x5_N5,x5_C5,x5_M5,x5_E5,x5_A11,x5_N11,x5_C11,x5_M11,x5_E11,x5_A12,x5_N12,x5_C12,x5_M12,x5_E12,bs9,os9⟩,rfl,rfl,hR⟩ hr9
    obtain ⟨hc,f0,f1,f2,f3,f4,f5,f6,f7,f8,f9,f10,f11,f12,f13,f14,g11_5,g12_5,g12_11,g14_13,g14_12,g14_5,g14_11⟩:=hR
    have eall:=all_done hr9 (by kernel_rfl) rfl
    obtain rfl:b0 = true:=eall 0 (by decide)
    obtain rfl:b1 = true:=eall 1 (by decide)
    obtain rfl:b2 = true:=eall 2 (by decide)
    obtain rfl:b3 = true:=eall 3 (by decide)
    obtain rfl:b4 = true:=eall 4 (by decide)
    obtain rfl:b5 = true:=eall 5 (by decide)
    obtain rfl:b6 = true:=eall 6 (by decide)
    obtain rfl:b7 = true:=eall 7 (by decide)
    obtain rfl:b8 = true:=eall 8 (by decide)
    obtain rfl:b9 = true:=eall 9 (by decide)
    obtain rfl:b10 = true:=eall 10 (by decide)
    obtain rfl:b11 = true:=eall 11 (by decide)
    obtain rfl:b12 = true:=eall 12 (by decide)
    obtain rfl:b13 = true:=eall 13 (by decide)
    obtain rfl:b14 = true:=eall 14 (by decide)
    clear hr9 eall
    have h9:=f0 rfl
    subst h9
    have h9:=f1 rfl
    subst h9
    have h9:=f2 rfl
    subst h9
    have h9:=f3 rfl
    subst h9
    have h9:=f4 rfl
    subst h9
    obtain ⟨h9,q5m,qx5_5⟩:=f5 rfl
    subst h9
    have h9:=f6 rfl
    subst h9
    have h9:=f7 rfl
    subst h9
    have h9:=f8 rfl
    subst h9
    have h9:=f9 rfl
    subst h9
    have h9:=f10 rfl
    subst h9
    obtain ⟨h9,q11m,qx5_11⟩:=f11 rfl
    subst h9
    obtain ⟨h9,q12m,qx5_12⟩:=f12 rfl
    subst h9
    obtain ⟨x5_g13,s9,h9,hg13,hs9,hm13⟩:=f14 rfl
    subst h9
    obtain rfl:s9 = .slice x5_A12 x5_N12 x5_C12:=by simpa using hs9.symm
    clear hs9
    simp only [cond_true] at hc
    have hbs9:∀ x,x∈([⟨x5_g13,#[.slice x5_A12 x5_N12 x5_C12],27⟩,⟨w3.heap.size,#[.slice yA3 yN3 yC3],27⟩,⟨w1.heap.size,#[.slice B1 K1 D1,.slice B2 K2 D2,.slice B3 K3 D3,.slice B4 K4 D4,.slice B5 K5 D5,.bool br],111⟩,⟨w.heap.size+1,#[.bool false,.slice none 0 0,.slice none 0 0],29⟩]:List En)→x∈bs9:=by
     intro x hx
     rcases List.mem_cons.1 hx with rfl|hx
     ·exact hm13
     rcases List.mem_cons.1 hx with rfl|hx
     ·exact (hc.old _ (by simp)).1
     rcases List.mem_cons.1 hx with rfl|hx
     ·exact (hc.old _ (by simp)).1
     rcases List.mem_cons.1 hx with rfl|hx
     ·exact (hc.old _ (by simp)).1
     exact absurd hx List.not_mem_nil
    have hos9:∀ x,x∈([(x5_A5,x5_N5,x5_C5,x5_M5),(x5_A11,x5_N11,x5_C11,x5_M11),(x5_A12,x5_N12,x5_C12,x5_M12),(yA3,yN3,yC3,yM3),(B5,K5,D5,V5),(B4,K4,D4,V4),(B3,K3,D3,V3),(B2,K2,D2,V2),(B1,K1,D1,V1)]:Os)→x∈os9:=by
     intro x hx
     rcases List.mem_cons.1 hx with rfl|hx
     ·exact q5m
     rcases List.mem_cons.1 hx with rfl|hx
     ·exact q11m
     rcases List.mem_cons.1 hx with rfl|hx
     ·exact q12m
     rcases List.mem_cons.1 hx with rfl|hx
     ·exact hc.oso _ (by simp)
     rcases List.mem_cons.1 hx with rfl|hx
     ·exact hc.oso _ (by simp)
     rcases List.mem_cons.1 hx with rfl|hx
     ·exact hc.oso _ (by simp)
     rcases List.mem_cons.1 hx with rfl|hx
     ·exact hc.oso _ (by simp)
     rcases List.mem_cons.1 hx with rfl|hx
     ·exact hc.oso _ (by simp)
     rcases List.mem_cons.1 hx with rfl|hx
     ·exact hc.oso _ (by simp)
     exact absurd hx List.not_mem_nil
    have hS:=hc.st.sub hbs9 (fun x hx=>hx) hos9
    have hsz9:=hc.sz
    rw [hS9z,hsW9] at hsz9
    have hlx5_g13:=hg13
    rw [hS9z,hsW9] at hlx5_g13
    have hux5_g13:=block_lt (hc.st.bx _ hm13).1
    simp only [] at hux5_g13
    clear hbs9 hos9 hc f0 f1 f2 f3 f4 f5 f6 f7 f8 f9 f10 f11 f12 f13 f14 g11_5 g12_5 g12_11 g14_13 g14_12 g14_5 g14_11
    clear q5m q11m q12m hm13 hg13
    have hz5:=hsz9
    clear hsz9 hS9z hS9 hC9 hsW9
    have Qx5_5:=hide qx5_5
    clear qx5_5
    have Qx5_11:=hide qx5_11
    clear qx5_11
    have Qx5_12:=hide qx5_12
    clear qx5_12
    obtain ⟨⟨k0_0,-⟩,-⟩:=hS.cz ⟨x5_g13,#[.slice x5_A12 x5_N12 x5_C12],27⟩ (by simp)
    obtain ⟨⟨k1_0,k1_1,k1_2,k1_3,k1_4,k1_5,-⟩,-⟩:=hS.cz ⟨w1.heap.size,#[.slice B1 K1 D1,.slice B2 K2 D2,.slice B3 K3 D3,.slice B4 K4 D4,.slice B5 K5 D5,.bool br],111⟩ (by simp)
    obtain ⟨⟨k2_0,k2_1,k2_2,-⟩,-⟩:=hS.cz ⟨w.heap.size+1,#[.bool false,.slice none 0 0,.slice none 0 0],29⟩ (by simp)
    simp only [] at k0_0 k1_0 k1_1 k1_2 k1_3 k1_4 k1_5 k2_0 k2_1 k2_2
    go_wp2_with fail
    clear k0_0 k1_0 k1_1 k1_2 k1_3 k1_4 k1_5 k2_0 k2_1 k2_2
    refine (W_frac hS s x5_A12 B5 x5_N12 K5 x5_C12 D5).mono ?_
    clear hS; rintro en Wz ⟨⟨s7,b7,k7,l7,b8,k8,l8,r7,rfl,q7⟩,hS,hzz⟩
    have Q7:=hide q7
    clear q7
    obtain ⟨⟨k0_0,k0_1,k0_2,-⟩,z0⟩:=hS.cz ⟨w.heap.size+1,#[.bool false,.slice none 0 0,.slice none 0 0],29⟩ (by simp)
    have z0_0:=z0 0
    have z0_1:=z0 1
    have z0_2:=z0 2
    clear z0
    simp only [] at k0_0 z0_0 k0_1 z0_1 k0_2 z0_2
    go_wp2
    have hend:=ap_ge hd1 hd2 hc1 hc2 (unhide QS) (unhide HLW) (Wg:=V1) (Wl:=V2) (Ag:=V3) (Al:=V4) rfl rfl rfl rfl (unhide HLT) (unhide Q3) (unhide Qx5_5) (unhide Qx5_11) (unhide Qx5_12)
    have q7:=unhide Q7
    replace hS:=hS.sub (bs':=[⟨w.heap.size+1,#[.bool false,.slice none 0 0,.slice none 0 0],29⟩]) (ms':=[]) (by intro x hx; rcases List.mem_cons.1 hx with rfl|hx; simp; exact absurd hx List.not_mem_nil) (by intro x hx; exact absurd hx List.not_mem_nil) (fun x hx=>hx)
    have u1:=hS.cellAt (x:=⟨w.heap.size+1,#[.bool false,.slice none 0 0,.slice none 0 0],29⟩) (by simp) 0 (.bool false) rfl
    have y1:=hS.frozen (x:=⟨w.heap.size+1,#[.bool false,.slice none 0 0,.slice none 0 0],29⟩) (by simp) 0
    simp only [] at u1 y1
    replace hS:=hS.put (x:=⟨w.heap.size+1,#[.bool false,.slice none 0 0,.slice none 0 0],29⟩) (by simp) (by simp only []; omega) 0 (.bool s7) (by simp) [⟨w.heap.size+1,#[.bool s7,.slice none 0 0,.slice none 0 0],29⟩] (by intro y hy; rcases List.mem_cons.1 hy with rfl|hy; exact Or.inl rfl; exact absurd hy List.not_mem_nil)
    have u2:=hS.cellAt (x:=⟨w.heap.size+1,#[.bool s7,.slice none 0 0,.slice none 0 0],29⟩) (by simp) 1 (.slice none 0 0) rfl
    have y2:=hS.frozen (x:=⟨w.heap.size+1,#[.bool s7,.slice none 0 0,.slice none 0 0],29⟩) (by simp) 1
    simp only [] at u2 y2
    replace hS:=hS.put (x:=⟨w.heap.size+1,#[.bool s7,.slice none 0 0,.slice none 0 0],29⟩) (by simp) (by simp only []; omega) 1 (.slice b7 k7 l7) (by simp) [⟨w.heap.size+1,#[.bool s7,.slice b7 k7 l7,.slice none 0 0],29⟩] (by intro y hy; rcases List.mem_cons.1 hy with rfl|hy; exact Or.inl rfl; exact absurd hy List.not_mem_nil)
    have u3:=hS.cellAt (x:=⟨w.heap.size+1,#[.bool s7,.slice b7 k7 l7,.slice none 0 0],29⟩) (by simp) 2 (.slice none 0 0) rfl
    have y3:=hS.frozen (x:=⟨w.heap.size+1,#[.bool s7,.slice b7 k7 l7,.slice none 0 0],29⟩) (by simp) 2
    simp only [] at u3 y3
    replace hS:=hS.put (x:=⟨w.heap.size+1,#[.bool s7,.slice b7 k7 l7,.slice none 0 0],29⟩) (by simp) (by simp only []; omega) 2 (.slice b8 k8 l8) (by simp) [⟨w.heap.size+1,#[.bool s7,.slice b7 k7 l7,.slice b8 k8 l8],29⟩] (by intro y hy; rcases List.mem_cons.1 hy with rfl|hy; exact Or.inl rfl; exact absurd hy List.not_mem_nil)
    have hbel:=hS.fr
    refine bodyPost_ret (v:=.tuple #[RatV s7 b7 k7 l7 b8 k8 l8,.int .i64 r7]) (by simp [results,Tryz.results51,go_sem,RatV,k0_0,k0_1,k0_2]) rfl ⟨?_,hbel⟩
    have o1:=hS.ow (x5_A12,x5_N12,x5_C12,x5_M12) (by simp)
    have o2:=hS.ow (B5,K5,D5,V5) (by simp)
    rcases q7 with ⟨h0,rfl,rfl,rfl,rfl,rfl,rfl,rfl,rfl⟩|⟨h0,rfl,rfl,rfl,rfl,rfl,rfl,rfl,rfl⟩
    ·obtain ⟨e1,e2⟩:=hend.1 h0
     have hz1:=o1.num.zero
     simp only [] at o1 o2 hz1
     rw [e1] at o1 hz1
     rw [e2] at o2
     refine Or.inl ⟨_,_,_,_,_,_,?_,o1,o2⟩
     rw [show apSign m1 d1 m2 d2 s t = s from if_neg (fun hx=>Bool.noConfusion ((hend.2.2 h0).2 hx))]
     rw [show decide (k7 = 0) = decide (_ = 0) from decide_eq_decide.2 hz1]
     all_goals rfl
    ·obtain ⟨e1,e2⟩:=hend.2.1 h0
     exact Or.inr ⟨by rw [e1],e2⟩
   ·simp
   ·exact ⟨⟨false,false,false,false,false,false,false,false,false,false,false,false,false,false,false,undef,undef,undef,undef,undef,undef,undef,undef,undef,undef,undef,undef,undef,undef,none,0,0,0,0,none,0,0,0,0,none,0,0,0,0,_,_⟩,rfl,rfl,⟨hC9,nb,nb,nb,nb,nb,nb,nb,nb,nb,nb,nb,nb,nb,nb,nb,nb,nb,nb,nb,nb,nb,nb⟩⟩
 ·have k0_0:=hS.cellAt (x:=⟨w1.heap.size,#[.slice B1 K1 D1,.slice B2 K2 D2,.slice B3 K3 D3,.slice B4 K4 D4,.slice B5 K5 D5,.bool br],111⟩) (by simp) 0 (.slice B1 K1 D1) rfl
  have k0_1:=hS.cellAt (x:=⟨w1.heap.size,#[.slice B1 K1 D1,.slice B2 K2 D2,.slice B3 K3 D3,.slice B4 K4 D4,.slice B5 K5 D5,.bool br],111⟩) (by simp) 1 (.slice B2 K2 D2) rfl
  have k0_2:=hS.cellAt (x:=⟨w1.heap.size,#[.slice B1 K1 D1,.slice B2 K2 D2,.slice B3 K3 D3,.slice B4 K4 D4,.slice B5 K5 D5,.bool br],111⟩) (by simp) 2 (.slice B3 K3 D3) rfl
  have k0_3:=hS.cellAt (x:=⟨w1.heap.size,#[.slice B1 K1 D1,.slice B2 K2 D2,.slice B3 K3 D3,.slice B4 K4 D4,.slice B5 K5 D5,.bool br],111⟩) (by simp) 3 (.slice B4 K4 D4) rfl
  have k0_4:=hS.cellAt (x:=⟨w1.heap.size,#[.slice B1 K1 D1,.slice B2 K2 D2,.slice B3 K3 D3,.slice B4 K4 D4,.slice B5 K5 D5,.bool br],111⟩) (by simp) 4 (.slice B5 K5 D5) rfl
  have k0_5:=hS.cellAt (x:=⟨w1.heap.size,#[.slice B1 K1 D1,.slice B2 K2 D2,.slice B3 K3 D3,.slice B4 K4 D4,.slice B5 K5 D5,.bool br],111⟩) (by simp) 5 (.bool br) rfl
  obtain ⟨⟨k1_0,k1_1,k1_2,k1_3,k1_4,k1_5,-⟩,-⟩:=hS.cz ⟨w.heap.size,#[.bool s,.slice a1 n1 c1,.slice a2 n2 c2,.bool t,.slice a3 n3 c3,.slice a4 n4 c4],52⟩ (by simp)
  simp only [] at k0_0 k0_1 k0_2 k0_3 k0_4 k0_5 k1_0 k1_1 k1_2 k1_3 k1_4 k1_5
  have u1:=hS.cellAt (x:=⟨w1.heap.size,#[.slice B1 K1 D1,.slice B2 K2 D2,.slice B3 K3 D3,.slice B4 K4 D4,.slice B5 K5 D5,.bool br],111⟩) (by simp) 0 (.slice B1 K1 D1) rfl
  have y1:=hS.frozen (x:=⟨w1.heap.size,#[.slice B1 K1 D1,.slice B2 K2 D2,.slice B3 K3 D3,.slice B4 K4 D4,.slice B5 K5 D5,.bool br],111⟩) (by simp) 0
  simp only [] at u1 y1
  replace hS:=hS.put (x:=⟨w1.heap.size,#[.slice B1 K1 D1,.slice B2 K2 D2,.slice B3 K3 D3,.slice B4 K4 D4,.slice B5 K5 D5,.bool br],111⟩) (by simp) (by simp only []; omega) 0 (.slice B2 K2 D2) (by simp) [⟨w1.heap.size,#[.slice B2 K2 D2,.slice B2 K2 D2,.slice B3 K3 D3,.slice B4 K4 D4,.slice B5 K5 D5,.bool br],111⟩,⟨w.heap.size+1,#[.bool false,.slice none 0 0,.slice none 0 0],29⟩,⟨w.heap.size,#[.bool s,.slice a1 n1 c1,.slice a2 n2 c2,.bool t,.slice a3 n3 c3,.slice a4 n4 c4],52⟩] (by intro y hy; rcases List.mem_cons.1 hy with rfl|hy; exact Or.inl rfl; rcases List.mem_cons.1 hy with rfl|hy; exact Or.inr ⟨by simp,by simp only []; omega⟩; rcases List.mem_cons.1 hy with rfl|hy; exact Or.inr ⟨by simp,by simp only []; omega⟩; exact absurd hy List.not_mem_nil)
  have u2:=hS.cellAt (x:=⟨w1.heap.size,#[.slice B2 K2 D2,.slice B2 K2 D2,.slice B3 K3 D3,.slice B4 K4 D4,.slice B5 K5 D5,.bool br],111⟩) (by simp) 1 (.slice B2 K2 D2) rfl
  have y2:=hS.frozen (x:=⟨w1.heap.size,#[.slice B2 K2 D2,.slice B2 K2 D2,.slice B3 K3 D3,.slice B4 K4 D4,.slice B5 K5 D5,.bool br],111⟩) (by simp) 1
  simp only [] at u2 y2
  replace hS:=hS.put (x:=⟨w1.heap.size,#[.slice B2 K2 D2,.slice B2 K2 D2,.slice B3 K3 D3,.slice B4 K4 D4,.slice B5 K5 D5,.bool br],111⟩) (by simp) (by simp only []; omega) 1 (.slice B1 K1 D1) (by simp) [⟨w1.heap.size,#[.slice B2 K2 D2,.slice B1 K1 D1,.slice B3 K3 D3,.slice B4 K4 D4,.slice B5 K5 D5,.bool br],111⟩,⟨w.heap.size+1,#[.bool false,.slice none 0 0,.slice none 0 0],29⟩,⟨w.heap.size,#[.bool s,.slice a1 n1 c1,.slice a2 n2 c2,.bool t,.slice a3 n3 c3,.slice a4 n4 c4],52⟩] (by intro y hy; rcases List.mem_cons.1 hy with rfl|hy; exact Or.inl rfl; rcases List.mem_cons.1 hy with rfl|hy; exact Or.inr ⟨by simp,by simp only []; omega⟩; rcases List.mem_cons.1 hy with rfl|hy; exact Or.inr ⟨by simp,by simp only []; omega⟩; exact absurd hy List.not_mem_nil)
  have u3:=hS.cellAt (x:=⟨w1.heap.size,#[.slice B2 K2 D2,.slice B1 K1 D1,.slice B3 K3 D3,.slice B4 K4 D4,.slice B5 K5 D5,.bool br],111⟩) (by simp) 2 (.slice B3 K3 D3) rfl
  have y3:=hS.frozen (x:=⟨w1.heap.size,#[.slice B2 K2 D2,.slice B1 K1 D1,.slice B3 K3 D3,.slice B4 K4 D4,.slice B5 K5 D5,.bool br],111⟩) (by simp) 2
  simp only [] at u3 y3
  replace hS:=hS.put (x:=⟨w1.heap.size,#[.slice B2 K2 D2,.slice B1 K1 D1,.slice B3 K3 D3,.slice B4 K4 D4,.slice B5 K5 D5,.bool br],111⟩) (by simp) (by simp only []; omega) 2 (.slice B4 K4 D4) (by simp) [⟨w1.heap.size,#[.slice B2 K2 D2,.slice B1 K1 D1,.slice B4 K4 D4,.slice B4 K4 D4,.slice B5 K5 D5,.bool br],111⟩,⟨w.heap.size+1,#[.bool false,.slice none 0 0,.slice none 0 0],29⟩,⟨w.heap.size,#[.bool s,.slice a1 n1 c1,.slice a2 n2 c2,.bool t,.slice a3 n3 c3,.slice a4 n4 c4],52⟩] (by intro y hy; rcases List.mem_cons.1 hy with rfl|hy; exact Or.inl rfl; rcases List.mem_cons.1 hy with rfl|hy; exact Or.inr ⟨by simp,by simp only []; omega⟩; rcases List.mem_cons.1 hy with rfl|hy; exact Or.inr ⟨by simp,by simp only []; omega⟩; exact absurd hy List.not_mem_nil)
  have u4:=hS.cellAt (x:=⟨w1.heap.size,#[.slice B2 K2 D2,.slice B1 K1 D1,.slice B4 K4 D4,.slice B4 K4 D4,.slice B5 K5 D5,.bool br],111⟩) (by simp) 3 (.slice B4 K4 D4) rfl
  have y4:=hS.frozen (x:=⟨w1.heap.size,#[.slice B2 K2 D2,.slice B1 K1 D1,.slice B4 K4 D4,.slice B4 K4 D4,.slice B5 K5 D5,.bool br],111⟩) (by simp) 3
  simp only [] at u4 y4
  replace hS:=hS.put (x:=⟨w1.heap.size,#[.slice B2 K2 D2,.slice B1 K1 D1,.slice B4 K4 D4,.slice B4 K4 D4,.slice B5 K5 D5,.bool br],111⟩) (by simp) (by simp only []; omega) 3 (.slice B3 K3 D3) (by simp) [⟨w1.heap.size,#[.slice B2 K2 D2,.slice B1 K1 D1,.slice B4 K4 D4,.slice B3 K3 D3,.slice B5 K5 D5,.bool br],111⟩,⟨w.heap.size+1,#[.bool false,.slice none 0 0,.slice none 0 0],29⟩,⟨w.heap.size,#[.bool s,.slice a1 n1 c1,.slice a2 n2 c2,.bool t,.slice a3 n3 c3,.slice a4 n4 c4],52⟩] (by intro y hy; rcases List.mem_cons.1 hy with rfl|hy; exact Or.inl rfl; rcases List.mem_cons.1 hy with rfl|hy; exact Or.inr ⟨by simp,by simp only []; omega⟩; rcases List.mem_cons.1 hy with rfl|hy; exact Or.inr ⟨by simp,by simp only []; omega⟩; exact absurd hy List.not_mem_nil)
  have kx0:=hS.cellAt (x:=⟨w1.heap.size,#[.slice B2 K2 D2,.slice B1 K1 D1,.slice B4 K4 D4,.slice B3 K3 D3,.slice B5 K5 D5,.bool br],111⟩) (by simp) 0 (.slice B2 K2 D2) rfl
  have kx1:=hS.cellAt (x:=⟨w1.heap.size,#[.slice B2 K2 D2,.slice B1 K1 D1,.slice B4 K4 D4,.slice B3 K3 D3,.slice B5 K5 D5,.bool br],111⟩) (by simp) 1 (.slice B1 K1 D1) rfl
  simp only [] at kx0 kx1
  go_wp2_with fail
  clear k0_0 k0_1 k0_2 k0_3 k0_4 k0_5 k1_0 k1_1 k1_2 k1_3 k1_4 k1_5
  clear kx0 kx1
  refine (W_sub hS D2 D1 (hS.ow (B2,K2,D2,V2) (by simp)).num (hS.ow (B1,K1,D1,V1) (by simp)).num).mono ?_
  clear hS; rintro en w3 ⟨yA3,yN3,yC3,yM3,yE3,rfl,hS,q3,hz3⟩
  have Q3:=hide q3
  clear q3
  replace hz3:w2.heap.size≤w3.heap.size:=by simpa [World.setCell] using hz3
  replace hS:=hS.alloc #[.slice yA3 yN3 yC3] 27
  try simp only [World.size_alloc] at hS
  obtain ⟨⟨k0_0,k0_1,k0_2,k0_3,k0_4,k0_5,-⟩,-⟩:=hS.cz ⟨w1.heap.size,#[.slice B2 K2 D2,.slice B1 K1 D1,.slice B4 K4 D4,.slice B3 K3 D3,.slice B5 K5 D5,.bool br],111⟩ (by simp)
  simp only [] at k0_0 k0_1 k0_2 k0_3 k0_4 k0_5
  go_wp2_with fail
  clear k0_0 k0_1 k0_2 k0_3 k0_4 k0_5
  refine (W_cmp hS D4 D3 (hS.ow (B4,K4,D4,V4) (by simp)).num (hS.ow (B3,K3,D3,V3) (by simp)).num).mono ?_
  clear hS; rintro en w4 ⟨rfl,hS,hz4⟩
  simp only [World.size_alloc] at hz4
  by_cases hlt:V4 < V3
  ·rw [show cmpI V4 V3 = -1 by rw [cmpI,if_pos hlt]]
   have HLT:=hide hlt
   clear hlt
   have HLW:=hide hlow
   clear hlow
   go_wp2_with fail
   replace hS:=hS.sub (bs':=[⟨w3.heap.size,#[.slice yA3 yN3 yC3],27⟩,⟨w1.heap.size,#[.slice B2 K2 D2,.slice B1 K1 D1,.slice B4 K4 D4,.slice B3 K3 D3,.slice B5 K5 D5,.bool br],111⟩,⟨w.heap.size+1,#[.bool false,.slice none 0 0,.slice none 0 0],29⟩]) (ms':=[]) (os':=[(yA3,yN3,yC3,yM3),(B5,K5,D5,V5),(B4,K4,D4,V4),(B3,K3,D3,V3),(B2,K2,D2,V2),(B1,K1,D1,V1)]) (by intro x hx; rcases List.mem_cons.1 hx with rfl|hx; (simp); rcases List.mem_cons.1 hx with rfl|hx; (simp); rcases List.mem_cons.1 hx with rfl|hx; (simp); exact absurd hx List.not_mem_nil) (by intro x hx; exact absurd hx List.not_mem_nil) (by intro x hx; rcases List.mem_cons.1 hx with rfl|hx; (simp); rcases List.mem_cons.1 hx with rfl|hx; (simp); rcases List.mem_cons.1 hx with rfl|hx; (simp); rcases List.mem_cons.1 hx with rfl|hx; (simp); rcases List.mem_cons.1 hx with rfl|hx; (simp); rcases List.mem_cons.1 hx with rfl|hx; (simp); exact absurd hx List.not_mem_nil)
   refine wp_region_any (by kernel_rfl) ?_
   change wpAny _ _ _ _ _ _ _ (World.drew _)
   have hS9:=hS.drew
   have hsW9:(World.drew w4).heap.size = w4.heap.size:=by first|rfl|simp
   generalize World.drew w4 = Wd at hS9 hsW9 ⊢
   obtain ⟨S9,hS9z⟩:∃ x,x = Wd.heap.size:=⟨_,rfl⟩
   have hC9:=Rc.start (bs:=[⟨w1.heap.size,#[.slice B2 K2 D2,.slice B1 K1 D1,.slice B4 K4 D4,.slice B3 K3 D3,.slice B5 K5 D5,.bool br],111⟩,⟨w.heap.size+1,#[.bool false,.slice none 0 0,.slice none 0 0],29⟩]) hS9 (by simp)
   rw [← hS9z] at hC9
   have hP9_0:=hS9.bx ⟨w3.heap.size,#[.slice yA3 yN3 yC3],27⟩ (by simp)
   have hP9_0:=block_lt hP9_0.1
   rw [← hS9z] at hP9_0
   simp only [] at hP9_0
   refine wpAny_inv (fun l act w'=>∃ σ,ApaLL5I w p s t a1 a2 a3 a4 n1 n2 n3 n4 c1 c2 c3 c4 B1 B2 B3 B4 B5 K1 K2 K3 K4 K5 D1 D2 D3 D4 D5 V1 V2 V3 V4 V5 w1 br yA3 yN3 yC3 yM3 yE3 w3 S9 l act w' σ) ?_ ?_ _ _ _ _ ?_ ?_
   ·intro l act w' i9 hI9 hi9 hl9
    have hin9:i9 < 5:=by
     by_cases h:i9 < 5
     ·exact h
     ·obtain ⟨⟨⟩,rfl,_⟩:=hI9
      rw [Array.getElem?_eq_none (by simp; omega)] at hl9; cases hl9
    have hcase:i9 = 0∨i9 = 1∨i9 = 2∨i9 = 3∨i9 = 4:=by omega
    clear hin9
    obtain ⟨⟨b0,b1,b2,b3,b4,v0,v1,v2,v3,A2,N2,C2,A3,N3,C3,M3,E3,bs9,os9⟩,rfl,rfl,hR⟩:=hI9
    rcases hcase with rfl|rfl|rfl|rfl|rfl
    ·obtain rfl:b0 = false:=by simpa using hl9
     have hc:=hR.hc
     refine wpOp_step rfl fun K hK=>?_
     go_simp
     exact hK _ _ ⟨⟨_,_,_,_,_,_,_,_,_,A2,N2,C2,A3,N3,C3,M3,E3,_,_⟩,rfl,rfl,{ hR with hc:=hc,f0:=(fun _=>rfl) }⟩
    ·obtain rfl:b1 = false:=by simpa using hl9
     have hc:=hR.hc
     obtain rfl:b4 = false:=by cases h:b4; rfl; exact Bool.noConfusion (hR.g4_1 h)
     have c9_0:=hc.st.cellAt (hR.o0_0 rfl) 0 (.slice yA3 yN3 yC3) rfl
     simp only [] at c9_0
     refine wpOp_step rfl fun K hK=>?_
     go_simp
     exact hK _ _ ⟨⟨_,_,_,_,_,_,_,_,_,A2,N2,C2,A3,N3,C3,M3,E3,_,_⟩,rfl,rfl,{ hR with hc:=hc,f1:=(fun _=>rfl),g4_1:=(fun _=>rfl) }⟩
    ·obtain rfl:b2 = false:=by simpa using hl9
     have hc:=hR.hc
     have HR:=hide hR
     clear hR
     refine wpOp_step rfl fun K hK=>?_
     go_simp
     go_wp2_with fail
     refine (W_of hc.st 1 (by omega)).mono ?_
     rintro en w9 ⟨a9,n9,c9,rfl,hs9,hz9⟩
     have hR:=unhide HR
     exact hK _ _ ⟨⟨_,_,_,_,_,_,_,_,_,_,_,_,A3,N3,C3,M3,E3,_,_⟩,rfl,rfl,{ hR with hc:=(hc.call hs9 hz9 (fun y hy=>List.mem_cons_of_mem _ hy)),f2:=(fun _=>⟨rfl,List.mem_cons_self ..⟩),f3:=(fun h=>Bool.noConfusion (hR.g3_2 h)),o0_1:=(fun h=>Bool.noConfusion (hR.g4_2 h)),g3_2:=(fun _=>rfl),g4_2:=(fun _=>rfl) }⟩
    ·obtain rfl:b3 = false:=by simpa using hl9
     obtain ⟨o9,ho9,hd9⟩:=(mem_ready.1 hi9).2
     cases ho9
     have e0:b0 = true:=hd9 ⟨0,.data⟩ (by simp) rfl
     have e1:b1 = true:=hd9 ⟨1,.data⟩ (by simp) rfl
     have e2:b2 = true:=hd9 ⟨2,.data⟩ (by simp) rfl
     subst e0 e1 e2
     have h9:=hR.f0 rfl
     subst h9
     have h9:=hR.f1 rfl
     subst h9
     have q2:=hR.f2 rfl
     obtain ⟨h9,q2m⟩:=q2
     subst h9
     have hc:=hR.hc
     simp only [cond_false] at hc
     have HR:=hide hR
     clear hR
     refine wpOp_step rfl fun K hK=>?_
     go_simp
     go_wp2_with fail
     refine (W_sub hc.st yC3 C2 (hc.st.ow (yA3,yN3,yC3,yM3) (hc.oso _ (by simp))).num (hc.st.ow _ q2m).num).mono ?_
     rintro en w9 ⟨a9,n9,c9,m9,e9,rfl,hs9,hz,hz9⟩
     have hR:=unhide HR
     exact hK _ _ ⟨⟨_,_,_,_,_,_,_,_,_,A2,N2,C2,_,_,_,_,_,_,_⟩,rfl,rfl,{ hR with hc:=(hc.call hs9 hz9 (fun y hy=>List.mem_cons_of_mem _ hy)),f2:=(fun h=>⟨(hR.f2 h).1,List.mem_cons_of_mem _ (hR.f2 h).2⟩),f3:=(fun _=>⟨rfl,List.mem_cons_self ..,hz⟩),o0_1:=(fun h=>Bool.noConfusion (hR.g4_3 h)),g3_2:=(fun _=>rfl),g4_3:=(fun _=>rfl) }⟩
    ·obtain rfl:b4 = false:=by simpa using hl9
     obtain ⟨o9,ho9,hd9⟩:=(mem_ready.1 hi9).2
     cases ho9
     have e3:b3 = true:=hd9 ⟨3,.data⟩ (by simp) rfl
     have e1:b1 = true:=hd9 ⟨1,.phase⟩ (by simp) rfl
     subst e3 e1
     have q3:=hR.f3 rfl
     obtain ⟨h9,q3m,q3z⟩:=q3
     subst h9
     have h9:=hR.f1 rfl
     subst h9
     have hc:=hR.hc
     have hm9:=hR.o0_0 rfl
     have fz9_0:=hc.st.frozen hm9 0
     have cz9_0:=hc.st.cellAt hm9 0 (.slice yA3 yN3 yC3) rfl
     simp only [] at fz9_0 cz9_0
     have hn9:∀ x,x∈([⟨w1.heap.size,#[.slice B2 K2 D2,.slice B1 K1 D1,.slice B4 K4 D4,.slice B3 K3 D3,.slice B5 K5 D5,.bool br],111⟩,⟨w.heap.size+1,#[.bool false,.slice none 0 0,.slice none 0 0],29⟩]:List En)→x.b≠w3.heap.size:=by intro x hx; rcases List.mem_cons.1 hx with rfl|hx; (simp only []; omega); rcases List.mem_cons.1 hx with rfl|hx; (simp only []; omega);  exact absurd hx List.not_mem_nil
     have hw9:w.heap.size≤w3.heap.size:=by omega
     refine wpOp_step rfl fun K hK=>?_
     go_simp
     exact hK _ _ ⟨⟨_,_,_,_,_,_,_,_,_,A2,N2,C2,A3,N3,C3,M3,E3,_,_⟩,rfl,rfl,{ hR with hc:=(hc.store hm9 hw9 hn9 0 (.slice A3 N3 C3) (by simp)),o0_0:=(fun h=>Bool.noConfusion h),o0_1:=(fun _=>List.mem_cons_self ..),g4_1:=(fun _=>rfl),g4_3:=(fun _=>rfl),g4_2:=(fun _=>hR.g3_2 rfl) }⟩
   ·rintro l act Wq5 ⟨⟨b0,b1,b2,b3,b4,v0,v1,v2,v3,x5_A2,x5_N2,x5_C2,x5_A3,x5_N3,x5_C3,x5_M3,x5_E3,bs9,os9⟩,rfl,rfl,hR⟩ hr9
    obtain ⟨hc,f0,f1,f2,f3,o0_0,o0_1,g4_1,g3_2,g4_3,g4_2⟩:=hR
    have eall:=all_done hr9 (by kernel_rfl) rfl
    obtain rfl:b0 = true:=eall 0 (by decide)
    obtain rfl:b1 = true:=eall 1 (by decide)
    obtain rfl:b2 = true:=eall 2 (by decide)
    obtain rfl:b3 = true:=eall 3 (by decide)
    obtain rfl:b4 = true:=eall 4 (by decide)
    clear hr9 eall
    have h9:=f0 rfl
    subst h9
    have h9:=f1 rfl
    subst h9
    obtain ⟨h9,q2m⟩:=f2 rfl
    subst h9
    obtain ⟨h9,q3m,qx5_3⟩:=f3 rfl
    subst h9
    simp only [cond_true] at hc
    have hbs9:∀ x,x∈([⟨w3.heap.size,#[.slice x5_A3 x5_N3 x5_C3],27⟩,⟨w1.heap.size,#[.slice B2 K2 D2,.slice B1 K1 D1,.slice B4 K4 D4,.slice B3 K3 D3,.slice B5 K5 D5,.bool br],111⟩,⟨w.heap.size+1,#[.bool false,.slice none 0 0,.slice none 0 0],29⟩]:List En)→x∈bs9:=by
     intro x hx
     rcases List.mem_cons.1 hx with rfl|hx
     ·exact (o0_1 rfl)
     rcases List.mem_cons.1 hx with rfl|hx
     ·exact (hc.old _ (by simp)).1
     rcases List.mem_cons.1 hx with rfl|hx
     ·exact (hc.old _ (by simp)).1
     exact absurd hx List.not_mem_nil
    have hos9:∀ x,x∈([(x5_A2,x5_N2,x5_C2,1),(x5_A3,x5_N3,x5_C3,x5_M3),(yA3,yN3,yC3,yM3),(B5,K5,D5,V5),(B4,K4,D4,V4),(B3,K3,D3,V3),(B2,K2,D2,V2),(B1,K1,D1,V1)]:Os)→x∈os9:=by
     intro x hx
     rcases List.mem_cons.1 hx with rfl|hx
     ·exact q2m
     rcases List.mem_cons.1 hx with rfl|hx
     ·exact q3m
     rcases List.mem_cons.1 hx with rfl|hx
     ·exact hc.oso _ (by simp)
     rcases List.mem_cons.1 hx with rfl|hx
     ·exact hc.oso _ (by simp)
     rcases List.mem_cons.1 hx with rfl|hx
     ·exact hc.oso _ (by simp)
     rcases List.mem_cons.1 hx with rfl|hx
     ·exact hc.oso _ (by simp)
     rcases List.mem_cons.1 hx with rfl|hx
     ·exact hc.oso _ (by simp)
     rcases List.mem_cons.1 hx with rfl|hx
     ·exact hc.oso _ (by simp)
     exact absurd hx List.not_mem_nil
    have hS:=hc.st.sub hbs9 (fun x hx=>hx) hos9
    have hsz9:=hc.sz
    rw [hS9z,hsW9] at hsz9
    clear hbs9 hos9 hc f0 f1 f2 f3 o0_0 o0_1 g4_1 g3_2 g4_3 g4_2
    clear q2m q3m
    have hz5:=hsz9
    clear hsz9 hS9z hS9 hC9 hsW9
    have Qx5_3:=hide qx5_3
    clear qx5_3
    go_wp2_with fail
    replace hS:=hS.sub (bs':=[⟨w3.heap.size,#[.slice x5_A3 x5_N3 x5_C3],27⟩,⟨w1.heap.size,#[.slice B2 K2 D2,.slice B1 K1 D1,.slice B4 K4 D4,.slice B3 K3 D3,.slice B5 K5 D5,.bool br],111⟩,⟨w.heap.size+1,#[.bool false,.slice none 0 0,.slice none 0 0],29⟩]) (ms':=[]) (os':=[(x5_A3,x5_N3,x5_C3,x5_M3),(B5,K5,D5,V5),(B4,K4,D4,V4),(B3,K3,D3,V3),(B2,K2,D2,V2),(B1,K1,D1,V1)]) (by intro x hx; rcases List.mem_cons.1 hx with rfl|hx; (simp); rcases List.mem_cons.1 hx with rfl|hx; (simp); rcases List.mem_cons.1 hx with rfl|hx; (simp); exact absurd hx List.not_mem_nil) (by intro x hx; exact absurd hx List.not_mem_nil) (by intro x hx; rcases List.mem_cons.1 hx with rfl|hx; (simp); rcases List.mem_cons.1 hx with rfl|hx; (simp); rcases List.mem_cons.1 hx with rfl|hx; (simp); rcases List.mem_cons.1 hx with rfl|hx; (simp); rcases List.mem_cons.1 hx with rfl|hx; (simp); rcases List.mem_cons.1 hx with rfl|hx; (simp); exact absurd hx List.not_mem_nil)
    refine wp_region_any (by kernel_rfl) ?_
    change wpAny _ _ _ _ _ _ _ (World.drew _)
    have hS9:=hS.drew
    have hsW9:(World.drew Wq5).heap.size = Wq5.heap.size:=by first|rfl|simp
    generalize World.drew Wq5 = Wd at hS9 hsW9 ⊢
    obtain ⟨S9,hS9z⟩:∃ x,x = Wd.heap.size:=⟨_,rfl⟩
    have hC9:=Rc.start (bs:=[⟨w3.heap.size,#[.slice x5_A3 x5_N3 x5_C3],27⟩,⟨w.heap.size+1,#[.bool false,.slice none 0 0,.slice none 0 0],29⟩]) hS9 (by simp)
    rw [← hS9z] at hC9
    have hP9_0:=hS9.bx ⟨w1.heap.size,#[.slice B2 K2 D2,.slice B1 K1 D1,.slice B4 K4 D4,.slice B3 K3 D3,.slice B5 K5 D5,.bool br],111⟩ (by simp)
    have hP9_0:=block_lt hP9_0.1
    rw [← hS9z] at hP9_0
    simp only [] at hP9_0
    refine wpAny_inv (fun l act w'=>∃ σ,ApaLL6I w p s t a1 a2 a3 a4 n1 n2 n3 n4 c1 c2 c3 c4 B1 B2 B3 B4 B5 K1 K2 K3 K4 K5 D1 D2 D3 D4 D5 V1 V2 V3 V4 V5 w1 br yA3 yN3 yC3 w3 x5_A2 x5_N2 x5_C2 x5_A3 x5_N3 x5_C3 x5_M3 x5_E3 S9 l act w' σ) ?_ ?_ _ _ _ _ ?_ ?_
    ·intro l act w' i9 hI9 hi9 hl9
     have hin9:i9 < 12:=by
      by_cases h:i9 < 12
      ·exact h
      ·obtain ⟨⟨⟩,rfl,_⟩:=hI9
       rw [Array.getElem?_eq_none (by simp; omega)] at hl9; cases hl9
     have hcase:i9 = 0∨i9 = 1∨i9 = 2∨i9 = 3∨i9 = 4∨i9 = 5∨i9 = 6∨i9 = 7∨i9 = 8∨i9 = 9∨i9 = 10∨i9 = 11:=by omega
     clear hin9
     obtain ⟨⟨b0,b1,b2,b3,b4,b5,b6,b7,b8,b9,b10,b11,v0,v1,v2,v3,v4,v5,v6,v7,v8,v9,v10,A6,N6,C6,M6,E6,A9,N9,C9,M9,E9,bs9,os9⟩,rfl,rfl,hR⟩:=hI9
     rcases hcase with rfl|rfl|rfl|rfl|rfl|rfl|rfl|rfl|rfl|rfl|rfl|rfl
     ·obtain rfl:b0 = false:=by simpa using hl9
      have hc:=hR.hc
      refine wpOp_step rfl fun K hK=>?_
      go_simp
      exact hK _ _ ⟨⟨_,_,_,_,_,_,_,_,_,_,_,_,_,_,_,_,_,_,_,_,_,_,_,A6,N6,C6,M6,E6,A9,N9,C9,M9,E9,_,_⟩,rfl,rfl,{ hR with hc:=hc,f0:=(fun _=>rfl) }⟩
     ·obtain rfl:b1 = false:=by simpa using hl9
      have hc:=hR.hc
      refine wpOp_step rfl fun K hK=>?_
      go_simp
      exact hK _ _ ⟨⟨_,_,_,_,_,_,_,_,_,_,_,_,_,_,_,_,_,_,_,_,_,_,_,A6,N6,C6,M6,E6,A9,N9,C9,M9,E9,_,_⟩,rfl,rfl,{ hR with hc:=hc,f1:=(fun _=>rfl) }⟩
     ·obtain rfl:b2 = false:=by simpa using hl9
      have hc:=hR.hc
      refine wpOp_step rfl fun K hK=>?_
      go_simp
      exact hK _ _ ⟨⟨_,_,_,_,_,_,_,_,_,_,_,_,_,_,_,_,_,_,_,_,_,_,_,A6,N6,C6,M6,E6,A9,N9,C9,M9,E9,_,_⟩,rfl,rfl,{ hR with hc:=hc,f2:=(fun _=>rfl) }⟩
     ·obtain rfl:b3 = false:=by simpa using hl9
      obtain ⟨o9,ho9,hd9⟩:=(mem_ready.1 hi9).2
      cases ho9
      have e2:b2 = true:=hd9 ⟨2,.data⟩ (by simp) rfl
      subst e2
      have h9:=hR.f2 rfl
      subst h9
      have hc:=hR.hc
      obtain rfl:b11 = false:=by cases h:b11; rfl; exact Bool.noConfusion (hR.g11_3 h)
      have c9_0:=hc.st.cellAt (hR.o0_0 rfl) 4 (.slice B5 K5 D5) rfl
      simp only [] at c9_0
      refine wpOp_step rfl fun K hK=>?_
      go_simp
      exact hK _ _ ⟨⟨_,_,_,_,_,_,_,_,_,_,_,_,_,_,_,_,_,_,_,_,_,_,_,A6,N6,C6,M6,E6,A9,N9,C9,M9,E9,_,_⟩,rfl,rfl,{ hR with hc:=hc,f3:=(fun _=>rfl),g11_3:=(fun _=>rfl) }⟩
     ·obtain rfl:b4 = false:=by simpa using hl9
      have hc:=hR.hc
      refine wpOp_step rfl fun K hK=>?_
      go_simp
      exact hK _ _ ⟨⟨_,_,_,_,_,_,_,_,_,_,_,_,_,_,_,_,_,_,_,_,_,_,_,A6,N6,C6,M6,E6,A9,N9,C9,M9,E9,_,_⟩,rfl,rfl,{ hR with hc:=hc,f4:=(fun _=>rfl) }⟩
     ·obtain rfl:b5 = false:=by simpa using hl9
      obtain ⟨o9,ho9,hd9⟩:=(mem_ready.1 hi9).2
      cases ho9
      have e4:b4 = true:=hd9 ⟨4,.data⟩ (by simp) rfl
      subst e4
      have h9:=hR.f4 rfl
      subst h9
      have hc:=hR.hc
      obtain rfl:b11 = false:=by cases h:b11; rfl; exact Bool.noConfusion (hR.g11_5 h)
      have c9_0:=hc.st.cellAt (hR.o0_0 rfl) 3 (.slice B3 K3 D3) rfl
      simp only [] at c9_0
      refine wpOp_step rfl fun K hK=>?_
      go_simp
      exact hK _ _ ⟨⟨_,_,_,_,_,_,_,_,_,_,_,_,_,_,_,_,_,_,_,_,_,_,_,A6,N6,C6,M6,E6,A9,N9,C9,M9,E9,_,_⟩,rfl,rfl,{ hR with hc:=hc,f5:=(fun _=>rfl),g11_5:=(fun _=>rfl) }⟩
     ·obtain rfl:b6 = false:=by simpa using hl9
      obtain ⟨o9,ho9,hd9⟩:=(mem_ready.1 hi9).2
      cases ho9
      have e1:b1 = true:=hd9 ⟨1,.data⟩ (by simp) rfl
      have e3:b3 = true:=hd9 ⟨3,.data⟩ (by simp) rfl
      have e5:b5 = true:=hd9 ⟨5,.data⟩ (by simp) rfl
      subst e1 e3 e5
      have h9:=hR.f1 rfl
      subst h9
      have h9:=hR.f3 rfl
      subst h9
      have h9:=hR.f5 rfl
      subst h9
      have hc:=hR.hc
      obtain rfl:b9 = false:=by cases h:b9; rfl; exact Bool.noConfusion (hR.g9_6 h)
      simp only [cond_false] at hc
      have HR:=hide hR
      clear hR
      refine wpOp_step rfl fun K hK=>?_
      go_simp
      go_wp2_with fail
      refine (W_sub hc.st D5 D3 (hc.st.ow (B5,K5,D5,V5) (hc.oso _ (by simp))).num (hc.st.ow (B3,K3,D3,V3) (hc.oso _ (by simp))).num).mono ?_
      rintro en w9 ⟨a9,n9,c9,m9,e9,rfl,hs9,hz,hz9⟩
      have hR:=unhide HR
      exact hK _ _ ⟨⟨_,_,_,_,_,_,_,_,_,_,_,_,_,_,_,_,_,_,_,_,_,_,_,_,_,_,_,_,A9,N9,C9,M9,E9,_,_⟩,rfl,rfl,{ hR with hc:=(hc.call hs9 hz9 (fun y hy=>List.mem_cons_of_mem _ hy)),f6:=(fun _=>⟨rfl,List.mem_cons_self ..,hz⟩),f9:=(fun h=>Bool.noConfusion (hR.g9_6 h)),o0_1:=(fun h=>Bool.noConfusion (hR.g11_6 h)),g9_6:=(fun _=>rfl),g11_6:=(fun _=>rfl) }⟩
     ·obtain rfl:b7 = false:=by simpa using hl9
      have hc:=hR.hc
      refine wpOp_step rfl fun K hK=>?_
      go_simp
      exact hK _ _ ⟨⟨_,_,_,_,_,_,_,_,_,_,_,_,_,_,_,_,_,_,_,_,_,_,_,A6,N6,C6,M6,E6,A9,N9,C9,M9,E9,_,_⟩,rfl,rfl,{ hR with hc:=hc,f7:=(fun _=>rfl) }⟩
     ·obtain rfl:b8 = false:=by simpa using hl9
      obtain ⟨o9,ho9,hd9⟩:=(mem_ready.1 hi9).2
      cases ho9
      have e7:b7 = true:=hd9 ⟨7,.data⟩ (by simp) rfl
      subst e7
      have h9:=hR.f7 rfl
      subst h9
      have hc:=hR.hc
      obtain rfl:b11 = false:=by cases h:b11; rfl; exact Bool.noConfusion (hR.g11_8 h)
      have c9_0:=hc.st.cellAt (hR.o0_0 rfl) 2 (.slice B4 K4 D4) rfl
      simp only [] at c9_0
      refine wpOp_step rfl fun K hK=>?_
      go_simp
      exact hK _ _ ⟨⟨_,_,_,_,_,_,_,_,_,_,_,_,_,_,_,_,_,_,_,_,_,_,_,A6,N6,C6,M6,E6,A9,N9,C9,M9,E9,_,_⟩,rfl,rfl,{ hR with hc:=hc,f8:=(fun _=>rfl),g11_8:=(fun _=>rfl) }⟩
     ·obtain rfl:b9 = false:=by simpa using hl9
      obtain ⟨o9,ho9,hd9⟩:=(mem_ready.1 hi9).2
      cases ho9
      have e0:b0 = true:=hd9 ⟨0,.data⟩ (by simp) rfl
      have e6:b6 = true:=hd9 ⟨6,.data⟩ (by simp) rfl
      have e8:b8 = true:=hd9 ⟨8,.data⟩ (by simp) rfl
      subst e0 e6 e8
      have h9:=hR.f0 rfl
      subst h9
      have q6:=hR.f6 rfl
      obtain ⟨h9,q6m,q6z⟩:=q6
      subst h9
      have h9:=hR.f8 rfl
      subst h9
      have hc:=hR.hc
      simp only [cond_true,cond_false] at hc
      have HR:=hide hR
      clear hR
      refine wpOp_step rfl fun K hK=>?_
      go_simp
      go_wp2_with fail
      refine (W_add hc.st C6 D4 (hc.st.ow _ q6m).num (hc.st.ow (B4,K4,D4,V4) (hc.oso _ (by simp))).num).mono ?_
      rintro en w9 ⟨a9,n9,c9,m9,e9,rfl,hs9,hz,hz9⟩
      have hR:=unhide HR
      exact hK _ _ ⟨⟨_,_,_,_,_,_,_,_,_,_,_,_,_,_,_,_,_,_,_,_,_,_,_,A6,N6,C6,M6,E6,_,_,_,_,_,_,_⟩,rfl,rfl,{ hR with hc:=(hc.call hs9 hz9 (fun y hy=>List.mem_cons_of_mem _ hy)),f6:=(fun h=>⟨(hR.f6 h).1,List.mem_cons_of_mem _ (hR.f6 h).2.1,(hR.f6 h).2.2⟩),f9:=(fun _=>⟨rfl,List.mem_cons_self ..,hz⟩),o0_1:=(fun h=>Bool.noConfusion (hR.g11_9 h)),g9_6:=(fun _=>rfl),g11_9:=(fun _=>rfl) }⟩
     ·obtain rfl:b10 = false:=by simpa using hl9
      have hc:=hR.hc
      refine wpOp_step rfl fun K hK=>?_
      go_simp
      exact hK _ _ ⟨⟨_,_,_,_,_,_,_,_,_,_,_,_,_,_,_,_,_,_,_,_,_,_,_,A6,N6,C6,M6,E6,A9,N9,C9,M9,E9,_,_⟩,rfl,rfl,{ hR with hc:=hc,f10:=(fun _=>rfl) }⟩
     ·obtain rfl:b11 = false:=by simpa using hl9
      obtain ⟨o9,ho9,hd9⟩:=(mem_ready.1 hi9).2
      cases ho9
      have e9:b9 = true:=hd9 ⟨9,.data⟩ (by simp) rfl
      have e10:b10 = true:=hd9 ⟨10,.data⟩ (by simp) rfl
      have e3:b3 = true:=hd9 ⟨3,.phase⟩ (by simp) rfl
      have e5:b5 = true:=hd9 ⟨5,.phase⟩ (by simp) rfl
      have e8:b8 = true:=hd9 ⟨8,.phase⟩ (by simp) rfl
      subst e9 e10 e3 e5 e8
      have q9:=hR.f9 rfl
      obtain ⟨h9,q9m,q9z⟩:=q9
      subst h9
      have h9:=hR.f10 rfl
      subst h9
      have h9:=hR.f3 rfl
      subst h9
      have h9:=hR.f5 rfl
      subst h9
      have h9:=hR.f8 rfl
      subst h9
      have hc:=hR.hc
      have hm9:=hR.o0_0 rfl
      have fz9_0:=hc.st.frozen hm9 2
      have cz9_0:=hc.st.cellAt hm9 2 (.slice B4 K4 D4) rfl
      simp only [] at fz9_0 cz9_0
      have hn9:∀ x,x∈([⟨w3.heap.size,#[.slice x5_A3 x5_N3 x5_C3],27⟩,⟨w.heap.size+1,#[.bool false,.slice none 0 0,.slice none 0 0],29⟩]:List En)→x.b≠w1.heap.size:=by intro x hx; rcases List.mem_cons.1 hx with rfl|hx; (simp only []; omega); rcases List.mem_cons.1 hx with rfl|hx; (simp only []; omega);  exact absurd hx List.not_mem_nil
      have hw9:w.heap.size≤w1.heap.size:=by omega
      refine wpOp_step rfl fun K hK=>?_
      go_simp
      exact hK _ _ ⟨⟨_,_,_,_,_,_,_,_,_,_,_,_,_,_,_,_,_,_,_,_,_,_,_,A6,N6,C6,M6,E6,A9,N9,C9,M9,E9,_,_⟩,rfl,rfl,{ hR with hc:=(hc.store hm9 hw9 hn9 2 (.slice A9 N9 C9) (by simp)),o0_0:=(fun h=>Bool.noConfusion h),o0_1:=(fun _=>List.mem_cons_self ..),g11_3:=(fun _=>rfl),g11_5:=(fun _=>rfl),g11_8:=(fun _=>rfl),g11_9:=(fun _=>rfl),g11_6:=(fun _=>hR.g9_6 rfl) }⟩
    ·rintro l act Wq6 ⟨⟨b0,b1,b2,b3,b4,b5,b6,b7,b8,b9,b10,b11,v0,v1,v2,v3,v4,v5,v6,v7,v8,v9,v10,x6_A6,x6_N6,x6_C6,x6_M6,x6_E6,x6_A9,x6_N9,x6_C9,x6_M9,x6_E9,bs9,os9⟩,rfl,rfl,hR⟩ hr9
     obtain ⟨hc,f0,f1,f2,f3,f4,f5,f6,f7,f8,f9,f10,o0_0,o0_1,g11_3,g11_5,g11_8,g9_6,g11_9,g11_6⟩:=hR
     have eall:=all_done hr9 (by kernel_rfl) rfl
     obtain rfl:b0 = true:=eall 0 (by decide)
     obtain rfl:b1 = true:=eall 1 (by decide)
     obtain rfl:b2 = true:=eall 2 (by decide)
     obtain rfl:b3 = true:=eall 3 (by decide)
     obtain rfl:b4 = true:=eall 4 (by decide)
     obtain rfl:b5 = true:=eall 5 (by decide)
     obtain rfl:b6 = true:=eall 6 (by decide)
     obtain rfl:b7 = true:=eall 7 (by decide)
     obtain rfl:b8 = true:=eall 8 (by decide)
     obtain rfl:b9 = true:=eall 9 (by decide)
     obtain rfl:b10 = true:=eall 10 (by decide)
     obtain rfl:b11 = true:=eall 11 (by decide)
     clear hr9 eall
     have h9:=f0 rfl
     subst h9
     have h9:=f1 rfl
     subst h9
     have h9:=f2 rfl
     subst h9
     have h9:=f3 rfl
     subst h9
     have h9:=f4 rfl
     subst h9
     have h9:=f5 rfl
     subst h9
     obtain ⟨h9,q6m,qx6_6⟩:=f6 rfl
     subst h9
     have h9:=f7 rfl
     subst h9
     have h9:=f8 rfl
     subst h9
     obtain ⟨h9,q9m,qx6_9⟩:=f9 rfl
     subst h9
     have h9:=f10 rfl
     subst h9
     simp only [cond_true] at hc
     have hbs9:∀ x,x∈([⟨w1.heap.size,#[.slice B2 K2 D2,.slice B1 K1 D1,.slice x6_A9 x6_N9 x6_C9,.slice B3 K3 D3,.slice B5 K5 D5,.bool br],111⟩,⟨w3.heap.size,#[.slice x5_A3 x5_N3 x5_C3],27⟩,⟨w.heap.size+1,#[.bool false,.slice none 0 0,.slice none 0 0],29⟩]:List En)→x∈bs9:=by
      intro x hx
      rcases List.mem_cons.1 hx with rfl|hx
      ·exact (o0_1 rfl)
      rcases List.mem_cons.1 hx with rfl|hx
      ·exact (hc.old _ (by simp)).1
      rcases List.mem_cons.1 hx with rfl|hx
      ·exact (hc.old _ (by simp)).1
      exact absurd hx List.not_mem_nil
     have hos9:∀ x,x∈([(x6_A6,x6_N6,x6_C6,x6_M6),(x6_A9,x6_N9,x6_C9,x6_M9),(x5_A3,x5_N3,x5_C3,x5_M3),(B5,K5,D5,V5),(B4,K4,D4,V4),(B3,K3,D3,V3),(B2,K2,D2,V2),(B1,K1,D1,V1)]:Os)→x∈os9:=by
      intro x hx
      rcases List.mem_cons.1 hx with rfl|hx
      ·exact q6m
      rcases List.mem_cons.1 hx with rfl|hx
      ·exact q9m
      rcases List.mem_cons.1 hx with rfl|hx
      ·exact hc.oso _ (by simp)
      rcases List.mem_cons.1 hx with rfl|hx
      ·exact hc.oso _ (by simp)
      rcases List.mem_cons.1 hx with rfl|hx
      ·exact hc.oso _ (by simp)
      rcases List.mem_cons.1 hx with rfl|hx
      ·exact hc.oso _ (by simp)
      rcases List.mem_cons.1 hx with rfl|hx
      ·exact hc.oso _ (by simp)
      rcases List.mem_cons.1 hx with rfl|hx
      ·exact hc.oso _ (by simp)
      exact absurd hx List.not_mem_nil
     have hS:=hc.st.sub hbs9 (fun x hx=>hx) hos9
     have hsz9:=hc.sz
     rw [hS9z,hsW9] at hsz9
     clear hbs9 hos9 hc f0 f1 f2 f3 f4 f5 f6 f7 f8 f9 f10 o0_0 o0_1 g11_3 g11_5 g11_8 g9_6 g11_9 g11_6
     clear q6m q9m
     have hz6:=hsz9
     clear hsz9 hS9z hS9 hC9 hsW9
     have Qx6_6:=hide qx6_6
     clear qx6_6
     have Qx6_9:=hide qx6_9
     clear qx6_9
     have u5:=hS.cellAt (x:=⟨w1.heap.size,#[.slice B2 K2 D2,.slice B1 K1 D1,.slice x6_A9 x6_N9 x6_C9,.slice B3 K3 D3,.slice B5 K5 D5,.bool br],111⟩) (by simp) 3 (.slice B3 K3 D3) rfl
     have y5:=hS.frozen (x:=⟨w1.heap.size,#[.slice B2 K2 D2,.slice B1 K1 D1,.slice x6_A9 x6_N9 x6_C9,.slice B3 K3 D3,.slice B5 K5 D5,.bool br],111⟩) (by simp) 3
     simp only [] at u5 y5
     replace hS:=hS.put (x:=⟨w1.heap.size,#[.slice B2 K2 D2,.slice B1 K1 D1,.slice x6_A9 x6_N9 x6_C9,.slice B3 K3 D3,.slice B5 K5 D5,.bool br],111⟩) (by simp) (by simp only []; omega) 3 (.slice none 0 0) (by simp) [⟨w1.heap.size,#[.slice B2 K2 D2,.slice B1 K1 D1,.slice x6_A9 x6_N9 x6_C9,.slice none 0 0,.slice B5 K5 D5,.bool br],111⟩,⟨w3.heap.size,#[.slice x5_A3 x5_N3 x5_C3],27⟩,⟨w.heap.size+1,#[.bool false,.slice none 0 0,.slice none 0 0],29⟩] (by intro y hy; rcases List.mem_cons.1 hy with rfl|hy; exact Or.inl rfl; rcases List.mem_cons.1 hy with rfl|hy; exact Or.inr ⟨by simp,by simp only []; omega⟩; rcases List.mem_cons.1 hy with rfl|hy; exact Or.inr ⟨by simp,by simp only []; omega⟩; exact absurd hy List.not_mem_nil)
     go_wp2_with fail
     replace hS:=hS.sub (bs':=[⟨w1.heap.size,#[.slice B2 K2 D2,.slice B1 K1 D1,.slice x6_A9 x6_N9 x6_C9,.slice none 0 0,.slice B5 K5 D5,.bool br],111⟩,⟨w3.heap.size,#[.slice x5_A3 x5_N3 x5_C3],27⟩,⟨w.heap.size+1,#[.bool false,.slice none 0 0,.slice none 0 0],29⟩]) (ms':=[]) (os':=[(x6_A9,x6_N9,x6_C9,x6_M9),(x5_A3,x5_N3,x5_C3,x5_M3),(B5,K5,D5,V5),(B2,K2,D2,V2),(B1,K1,D1,V1)]) (by intro x hx; rcases List.mem_cons.1 hx with rfl|hx; (simp); rcases List.mem_cons.1 hx with rfl|hx; (simp); rcases List.mem_cons.1 hx with rfl|hx; (simp); exact absurd hx List.not_mem_nil) (by intro x hx; exact absurd hx List.not_mem_nil) (by intro x hx; rcases List.mem_cons.1 hx with rfl|hx; (simp); rcases List.mem_cons.1 hx with rfl|hx; (simp); rcases List.mem_cons.1 hx with rfl|hx; (simp); rcases List.mem_cons.1 hx with rfl|hx; (simp); rcases List.mem_cons.1 hx with rfl|hx; (simp); exact absurd hx List.not_mem_nil)
     refine wp_region_any (by kernel_rfl) ?_
     change wpAny _ _ _ _ _ _ _ (World.drew _)
     have hS9:=hS.drew
     have hsW9:(World.drew (Wq6.setCell ⟨w1.heap.size,3,none⟩ (.slice none 0 0))).heap.size = Wq6.heap.size:=by first|rfl|simp
     generalize World.drew (Wq6.setCell ⟨w1.heap.size,3,none⟩ (.slice none 0 0)) = Wd at hS9 hsW9 ⊢
     obtain ⟨S9,hS9z⟩:∃ x,x = Wd.heap.size:=⟨_,rfl⟩
     have hC9:=Rc.start (bs:=[⟨w1.heap.size,#[.slice B2 K2 D2,.slice B1 K1 D1,.slice x6_A9 x6_N9 x6_C9,.slice none 0 0,.slice B5 K5 D5,.bool br],111⟩,⟨w3.heap.size,#[.slice x5_A3 x5_N3 x5_C3],27⟩,⟨w.heap.size+1,#[.bool false,.slice none 0 0,.slice none 0 0],29⟩]) hS9 (by simp)
     rw [← hS9z] at hC9
     refine wpAny_inv (fun l act w'=>∃ σ,ApaLL7I w p s t a1 a2 a3 a4 n1 n2 n3 n4 c1 c2 c3 c4 B1 B2 B3 B4 B5 K1 K2 K3 K4 K5 D1 D2 D3 D4 D5 V1 V2 V5 w1 br yA3 yN3 yC3 w3 x5_A2 x5_N2 x5_C2 x5_A3 x5_N3 x5_C3 x5_M3 x6_A6 x6_N6 x6_C6 x6_A9 x6_N9 x6_C9 x6_M9 x6_E9 S9 l act w' σ) ?_ ?_ _ _ _ _ ?_ ?_
     ·intro l act w' i9 hI9 hi9 hl9
      have hin9:i9 < 15:=by
       by_cases h:i9 < 15
       ·exact h
       ·obtain ⟨⟨⟩,rfl,_⟩:=hI9
        rw [Array.getElem?_eq_none (by simp; omega)] at hl9; cases hl9
      have hcase:i9 = 0∨i9 = 1∨i9 = 2∨i9 = 3∨i9 = 4∨i9 = 5∨i9 = 6∨i9 = 7∨i9 = 8∨i9 = 9∨i9 = 10∨i9 = 11∨i9 = 12∨i9 = 13∨i9 = 14:=by omega
      clear hin9
      obtain ⟨⟨b0,b1,b2,b3,b4,b5,b6,b7,b8,b9,b10,b11,b12,b13,b14,v0,v1,v2,v3,v4,v5,v6,v7,v8,v9,v10,v11,v12,v13,A5,N5,C5,M5,E5,A11,N11,C11,M11,E11,A12,N12,C12,M12,E12,bs9,os9⟩,rfl,rfl,hR⟩:=hI9
      rcases hcase with rfl|rfl|rfl|rfl|rfl|rfl|rfl|rfl|rfl|rfl|rfl|rfl|rfl|rfl|rfl
      ·obtain rfl:b0 = false:=by simpa using hl9
       have hc:=hR.hc
       refine wpOp_step rfl fun K hK=>?_
       go_simp
       exact hK _ _ ⟨⟨_,_,_,_,_,_,_,_,_,_,_,_,_,_,_,_,_,_,_,_,_,_,_,_,_,_,_,_,_,A5,N5,C5,M5,E5,A11,N11,C11,M11,E11,A12,N12,C12,M12,E12,_,_⟩,rfl,rfl,{ hR with hc:=hc,f0:=(fun _=>rfl) }⟩
      ·obtain rfl:b1 = false:=by simpa using hl9
       have hc:=hR.hc
       refine wpOp_step rfl fun K hK=>?_
       go_simp
       exact hK _ _ ⟨⟨_,_,_,_,_,_,_,_,_,_,_,_,_,_,_,_,_,_,_,_,_,_,_,_,_,_,_,_,_,A5,N5,C5,M5,E5,A11,N11,C11,M11,E11,A12,N12,C12,M12,E12,_,_⟩,rfl,rfl,{ hR with hc:=hc,f1:=(fun _=>rfl) }⟩
      ·obtain rfl:b2 = false:=by simpa using hl9
       have hc:=hR.hc
       have c9_0:=hc.st.cellAt (hc.old ⟨w3.heap.size,#[.slice x5_A3 x5_N3 x5_C3],27⟩ (by simp)).1 0 (.slice x5_A3 x5_N3 x5_C3) rfl
       simp only [] at c9_0
       refine wpOp_step rfl fun K hK=>?_
       go_simp
       exact hK _ _ ⟨⟨_,_,_,_,_,_,_,_,_,_,_,_,_,_,_,_,_,_,_,_,_,_,_,_,_,_,_,_,_,A5,N5,C5,M5,E5,A11,N11,C11,M11,E11,A12,N12,C12,M12,E12,_,_⟩,rfl,rfl,{ hR with hc:=hc,f2:=(fun _=>rfl) }⟩
      ·obtain rfl:b3 = false:=by simpa using hl9
       have hc:=hR.hc
       refine wpOp_step rfl fun K hK=>?_
       go_simp
       exact hK _ _ ⟨⟨_,_,_,_,_,_,_,_,_,_,_,_,_,_,_,_,_,_,_,_,_,_,_,_,_,_,_,_,_,A5,N5,C5,M5,E5,A11,N11,C11,M11,E11,A12,N12,C12,M12,E12,_,_⟩,rfl,rfl,{ hR with hc:=hc,f3:=(fun _=>rfl) }⟩
      ·obtain rfl:b4 = false:=by simpa using hl9
       obtain ⟨o9,ho9,hd9⟩:=(mem_ready.1 hi9).2
       cases ho9
       have e3:b3 = true:=hd9 ⟨3,.data⟩ (by simp) rfl
       subst e3
       have h9:=hR.f3 rfl
       subst h9
       have hc:=hR.hc
       have c9_0:=hc.st.cellAt (hc.old ⟨w1.heap.size,#[.slice B2 K2 D2,.slice B1 K1 D1,.slice x6_A9 x6_N9 x6_C9,.slice none 0 0,.slice B5 K5 D5,.bool br],111⟩ (by simp)).1 4 (.slice B5 K5 D5) rfl
       simp only [] at c9_0
       refine wpOp_step rfl fun K hK=>?_
       go_simp
       exact hK _ _ ⟨⟨_,_,_,_,_,_,_,_,_,_,_,_,_,_,_,_,_,_,_,_,_,_,_,_,_,_,_,_,_,A5,N5,C5,M5,E5,A11,N11,C11,M11,E11,A12,N12,C12,M12,E12,_,_⟩,rfl,rfl,{ hR with hc:=hc,f4:=(fun _=>rfl) }⟩
      ·obtain rfl:b5 = false:=by simpa using hl9
       obtain ⟨o9,ho9,hd9⟩:=(mem_ready.1 hi9).2
       cases ho9
       have e1:b1 = true:=hd9 ⟨1,.data⟩ (by simp) rfl
       have e2:b2 = true:=hd9 ⟨2,.data⟩ (by simp) rfl
       have e4:b4 = true:=hd9 ⟨4,.data⟩ (by simp) rfl
       subst e1 e2 e4
       have h9:=hR.f1 rfl
       subst h9
       have h9:=hR.f2 rfl
       subst h9
       have h9:=hR.f4 rfl
       subst h9
       have hc:=hR.hc
       obtain rfl:b11 = false:=by cases h:b11; rfl; exact Bool.noConfusion (hR.g11_5 h)
       obtain rfl:b12 = false:=by cases h:b12; rfl; exact Bool.noConfusion (hR.g12_11 h)
       simp only [cond_false] at hc
       have HR:=hide hR
       clear hR
       refine wpOp_step rfl fun K hK=>?_
       go_simp
       go_wp2_with fail
       refine (W_mul hc.st x5_C3 D5 (hc.st.ow (x5_A3,x5_N3,x5_C3,x5_M3) (hc.oso _ (by simp))).num (hc.st.ow (B5,K5,D5,V5) (hc.oso _ (by simp))).num).mono ?_
       rintro en w9 ⟨a9,n9,c9,m9,e9,rfl,hs9,hz,hz9⟩
       have hR:=unhide HR
       exact hK _ _ ⟨⟨_,_,_,_,_,_,_,_,_,_,_,_,_,_,_,_,_,_,_,_,_,_,_,_,_,_,_,_,_,_,_,_,_,_,A11,N11,C11,M11,E11,A12,N12,C12,M12,E12,_,_⟩,rfl,rfl,{ hR with hc:=(hc.call hs9 hz9 (fun y hy=>List.mem_cons_of_mem _ hy)),f5:=(fun _=>⟨rfl,List.mem_cons_self ..,hz⟩),f11:=(fun h=>Bool.noConfusion (hR.g11_5 h)),f12:=(fun h=>Bool.noConfusion (hR.g12_5 h)),f14:=(fun h=>Bool.noConfusion (hR.g14_5 h)),g11_5:=(fun _=>rfl),g12_5:=(fun _=>rfl),g14_5:=(fun _=>rfl) }⟩
      ·obtain rfl:b6 = false:=by simpa using hl9
       have hc:=hR.hc
       refine wpOp_step rfl fun K hK=>?_
       go_simp
       exact hK _ _ ⟨⟨_,_,_,_,_,_,_,_,_,_,_,_,_,_,_,_,_,_,_,_,_,_,_,_,_,_,_,_,_,A5,N5,C5,M5,E5,A11,N11,C11,M11,E11,A12,N12,C12,M12,E12,_,_⟩,rfl,rfl,{ hR with hc:=hc,f6:=(fun _=>rfl) }⟩
      ·obtain rfl:b7 = false:=by simpa using hl9
       have hc:=hR.hc
       refine wpOp_step rfl fun K hK=>?_
       go_simp
       exact hK _ _ ⟨⟨_,_,_,_,_,_,_,_,_,_,_,_,_,_,_,_,_,_,_,_,_,_,_,_,_,_,_,_,_,A5,N5,C5,M5,E5,A11,N11,C11,M11,E11,A12,N12,C12,M12,E12,_,_⟩,rfl,rfl,{ hR with hc:=hc,f7:=(fun _=>rfl) }⟩
      ·obtain rfl:b8 = false:=by simpa using hl9
       obtain ⟨o9,ho9,hd9⟩:=(mem_ready.1 hi9).2
       cases ho9
       have e7:b7 = true:=hd9 ⟨7,.data⟩ (by simp) rfl
       subst e7
       have h9:=hR.f7 rfl
       subst h9
       have hc:=hR.hc
       have c9_0:=hc.st.cellAt (hc.old ⟨w1.heap.size,#[.slice B2 K2 D2,.slice B1 K1 D1,.slice x6_A9 x6_N9 x6_C9,.slice none 0 0,.slice B5 K5 D5,.bool br],111⟩ (by simp)).1 2 (.slice x6_A9 x6_N9 x6_C9) rfl
       simp only [] at c9_0
       refine wpOp_step rfl fun K hK=>?_
       go_simp
       exact hK _ _ ⟨⟨_,_,_,_,_,_,_,_,_,_,_,_,_,_,_,_,_,_,_,_,_,_,_,_,_,_,_,_,_,A5,N5,C5,M5,E5,A11,N11,C11,M11,E11,A12,N12,C12,M12,E12,_,_⟩,rfl,rfl,{ hR with hc:=hc,f8:=(fun _=>rfl) }⟩
      ·obtain rfl:b9 = false:=by simpa using hl9
       have hc:=hR.hc
       refine wpOp_step rfl fun K hK=>?_
       go_simp
       exact hK _ _ ⟨⟨_,_,_,_,_,_,_,_,_,_,_,_,_,_,_,_,_,_,_,_,_,_,_,_,_,_,_,_,_,A5,N5,C5,M5,E5,A11,N11,C11,M11,E11,A12,N12,C12,M12,E12,_,_⟩,rfl,rfl,{ hR with hc:=hc,f9:=(fun _=>rfl) }⟩
      ·obtain rfl:b10 = false:=by simpa using hl9
       obtain ⟨o9,ho9,hd9⟩:=(mem_ready.1 hi9).2
       cases ho9
       have e9:b9 = true:=hd9 ⟨9,.data⟩ (by simp) rfl
       subst e9
       have h9:=hR.f9 rfl
       subst h9
       have hc:=hR.hc
       have c9_0:=hc.st.cellAt (hc.old ⟨w1.heap.size,#[.slice B2 K2 D2,.slice B1 K1 D1,.slice x6_A9 x6_N9 x6_C9,.slice none 0 0,.slice B5 K5 D5,.bool br],111⟩ (by simp)).1 3 (.slice none 0 0) rfl
       simp only [] at c9_0
       refine wpOp_step rfl fun K hK=>?_
       go_simp
       exact hK _ _ ⟨⟨_,_,_,_,_,_,_,_,_,_,_,_,_,_,_,_,_,_,_,_,_,_,_,_,_,_,_,_,_,A5,N5,C5,M5,E5,A11,N11,C11,M11,E11,A12,N12,C12,M12,E12,_,_⟩,rfl,rfl,{ hR with hc:=hc,f10:=(fun _=>rfl) }⟩
      ·obtain rfl:b11 = false:=by simpa using hl9
       obtain ⟨o9,ho9,hd9⟩:=(mem_ready.1 hi9).2
       cases ho9
       have e6:b6 = true:=hd9 ⟨6,.data⟩ (by simp) rfl
       have e8:b8 = true:=hd9 ⟨8,.data⟩ (by simp) rfl
       have e10:b10 = true:=hd9 ⟨10,.data⟩ (by simp) rfl
       have e5:b5 = true:=hd9 ⟨5,.chain⟩ (by simp) rfl
       subst e6 e8 e10 e5
       have h9:=hR.f6 rfl
       subst h9
       have h9:=hR.f8 rfl
       subst h9
       have h9:=hR.f10 rfl
       subst h9
       have q5:=hR.f5 rfl
       obtain ⟨h9,q5m,q5z⟩:=q5
       subst h9
       have hc:=hR.hc
       obtain rfl:b12 = false:=by cases h:b12; rfl; exact Bool.noConfusion (hR.g12_11 h)
       simp only [cond_true,cond_false] at hc
       have HR:=hide hR
       clear hR
       refine wpOp_step rfl fun K hK=>?_
       go_simp
       go_wp2_with fail
       refine (W_sub hc.st x6_C9 0 (hc.st.ow (x6_A9,x6_N9,x6_C9,x6_M9) (hc.oso _ (by simp))).num (mine_nil _ 0).num).mono ?_
       rintro en w9 ⟨a9,n9,c9,m9,e9,rfl,hs9,hz,hz9⟩
       have hR:=unhide HR
       exact hK _ _ ⟨⟨_,_,_,_,_,_,_,_,_,_,_,_,_,_,_,_,_,_,_,_,_,_,_,_,_,_,_,_,_,A5,N5,C5,M5,E5,_,_,_,_,_,A12,N12,C12,M12,E12,_,_⟩,rfl,rfl,{ hR with hc:=(hc.call hs9 hz9 (fun y hy=>List.mem_cons_of_mem _ hy)),f5:=(fun h=>⟨(hR.f5 h).1,List.mem_cons_of_mem _ (hR.f5 h).2.1,(hR.f5 h).2.2⟩),f11:=(fun _=>⟨rfl,List.mem_cons_self ..,hz⟩),f12:=(fun h=>Bool.noConfusion (hR.g12_11 h)),f14:=(fun h=>Bool.noConfusion (hR.g14_11 h)),g11_5:=(fun _=>rfl),g12_11:=(fun _=>rfl),g14_11:=(fun _=>rfl) }⟩
      ·obtain rfl:b12 = false:=by simpa using hl9
       obtain ⟨o9,ho9,hd9⟩:=(mem_ready.1 hi9).2
       cases ho9
       have e0:b0 = true:=hd9 ⟨0,.data⟩ (by simp) rfl
       have e5:b5 = true:=hd9 ⟨5,.data⟩ (by simp) rfl
       have e11:b11 = true:=hd9 ⟨11,.data⟩ (by simp) rfl
       subst e0 e5 e11
       have h9:=hR.f0 rfl
       subst h9
       have q5:=hR.f5 rfl
       obtain ⟨h9,q5m,q5z⟩:=q5
       subst h9
       have q11:=hR.f11 rfl
       obtain ⟨h9,q11m,q11z⟩:=q11
       subst h9
       have hc:=hR.hc
       simp only [cond_true,cond_false] at hc
       have HR:=hide hR
       clear hR
       refine wpOp_step rfl fun K hK=>?_
       go_simp
       go_wp2_with fail
       refine (W_add hc.st C5 C11 (hc.st.ow _ q5m).num (hc.st.ow _ q11m).num).mono ?_
       rintro en w9 ⟨a9,n9,c9,m9,e9,rfl,hs9,hz,hz9⟩
       have hR:=unhide HR
       exact hK _ _ ⟨⟨_,_,_,_,_,_,_,_,_,_,_,_,_,_,_,_,_,_,_,_,_,_,_,_,_,_,_,_,_,A5,N5,C5,M5,E5,A11,N11,C11,M11,E11,_,_,_,_,_,_,_⟩,rfl,rfl,{ hR with hc:=(hc.call hs9 hz9 (fun y hy=>List.mem_cons_of_mem _ hy)),f5:=(fun h=>⟨(hR.f5 h).1,List.mem_cons_of_mem _ (hR.f5 h).2.1,(hR.f5 h).2.2⟩),f11:=(fun h=>⟨(hR.f11 h).1,List.mem_cons_of_mem _ (hR.f11 h).2.1,(hR.f11 h).2.2⟩),f12:=(fun _=>⟨rfl,List.mem_cons_self ..,hz⟩),f14:=(fun h=>Bool.noConfusion (hR.g14_12 h)),g12_5:=(fun _=>rfl),g12_11:=(fun _=>rfl),g14_12:=(fun _=>rfl) }⟩
      ·obtain rfl:b13 = false:=by simpa using hl9
       have hc:=hR.hc
       refine wpOp_step rfl fun K hK=>?_
       go_simp
       exact hK _ _ ⟨⟨_,_,_,_,_,_,_,_,_,_,_,_,_,_,_,_,_,_,_,_,_,_,_,_,_,_,_,_,_,A5,N5,C5,M5,E5,A11,N11,C11,M11,E11,A12,N12,C12,M12,E12,_,_⟩,rfl,rfl,{ hR with hc:=(hc.alloc #[.slice none 0 0] 27),f13:=(fun _=>AlV.self rfl hc.sz),f14:=(fun h=>Bool.noConfusion (hR.g14_13 h)),g14_13:=(fun _=>rfl) }⟩
      ·obtain rfl:b14 = false:=by simpa using hl9
       obtain ⟨o9,ho9,hd9⟩:=(mem_ready.1 hi9).2
       cases ho9
       have e12:b12 = true:=hd9 ⟨12,.data⟩ (by simp) rfl
       have e13:b13 = true:=hd9 ⟨13,.data⟩ (by simp) rfl
       subst e12 e13
       have q12:=hR.f12 rfl
       obtain ⟨h9,q12m,q12z⟩:=q12
       subst h9
       have hc:=hR.hc
       obtain ⟨g9,s9,h9,hg9,hm9⟩:=hR.f13 rfl
       subst h9
       have fz9:=hc.st.frozen hm9 0
       have cz9:=hc.st.cellAt hm9 0 s9 rfl
       simp only [] at fz9 cz9
       have hn9:∀ x,x∈([⟨w1.heap.size,#[.slice B2 K2 D2,.slice B1 K1 D1,.slice x6_A9 x6_N9 x6_C9,.slice none 0 0,.slice B5 K5 D5,.bool br],111⟩,⟨w3.heap.size,#[.slice x5_A3 x5_N3 x5_C3],27⟩,⟨w.heap.size+1,#[.bool false,.slice none 0 0,.slice none 0 0],29⟩]:List En)→x.b≠g9:=fun x hx=>by have:=(hc.old x hx).2; omega
       refine wpOp_step rfl fun K hK=>?_
       go_simp
       exact hK _ _ ⟨⟨_,_,_,_,_,_,_,_,_,_,_,_,_,_,_,_,_,_,_,_,_,_,_,_,_,_,_,_,_,A5,N5,C5,M5,E5,A11,N11,C11,M11,E11,A12,N12,C12,M12,E12,_,_⟩,rfl,rfl,{ hR with hc:=(hc.store hm9 (by have:=hc.w0s; omega) hn9 0 (.slice A12 N12 C12) (by simp)),f13:=(fun _=>AlV.self rfl hg9),f14:=(fun _=>⟨g9,_,rfl,hg9,rfl,List.mem_cons_self ..⟩),g14_13:=(fun _=>rfl),g14_12:=(fun _=>rfl),g14_5:=(fun _=>hR.g12_5 rfl),g14_11:=(fun _=>hR.g12_11 rfl) }⟩
     ·rintro l act Wq7 ⟨⟨b0,b1,b2,b3,b4,b5,b6,b7,b8,b9,b10,b11,b12,b13,b14,v0,v1,v2,v3,v4,v5,v6,v7,v8,v9,v10,v11,v12,v13,x7_A5,x7_N5,x7_C5,x7_M5,x7_E5,x7_A11,x7_N11,x7_C11,x7_M11,x7_E11,x7_A12,x7_N12,x7_C12,x7_M12,x7_E12,bs9,os9⟩,rfl,rfl,hR⟩ hr9
      obtain ⟨hc,f0,f1,f2,f3,f4,f5,f6,f7,f8,f9,f10,f11,f12,f13,f14,g11_5,g12_5,g12_11,g14_13,g14_12,g14_5,g14_11⟩:=hR
      have eall:=all_done hr9 (by kernel_rfl) rfl
      obtain rfl:b0 = true:=eall 0 (by decide)
      obtain rfl:b1 = true:=eall 1 (by decide)
      obtain rfl:b2 = true:=eall 2 (by decide)
      obtain rfl:b3 = true:=eall 3 (by decide)
      obtain rfl:b4 = true:=eall 4 (by decide)
      obtain rfl:b5 = true:=eall 5 (by decide)
      obtain rfl:b6 = true:=eall 6 (by decide)
      obtain rfl:b7 = true:=eall 7 (by decide)
      obtain rfl:b8 = true:=eall 8 (by decide)
      obtain rfl:b9 = true:=eall 9 (by decide)
      obtain rfl:b10 = true:=eall 10 (by decide)
      obtain rfl:b11 = true:=eall 11 (by decide)
      obtain rfl:b12 = true:=eall 12 (by decide)
      obtain rfl:b13 = true:=eall 13 (by decide)
      obtain rfl:b14 = true:=eall 14 (by decide)
      clear hr9 eall
      have h9:=f0 rfl
      subst h9
      have h9:=f1 rfl
      subst h9
      have h9:=f2 rfl
      subst h9
      have h9:=f3 rfl
      subst h9
      have h9:=f4 rfl
      subst h9
      obtain ⟨h9,q5m,qx7_5⟩:=f5 rfl
      subst h9
      have h9:=f6 rfl
      subst h9
      have h9:=f7 rfl
      subst h9
      have h9:=f8 rfl
      subst h9
      have h9:=f9 rfl
      subst h9
      have h9:=f10 rfl
      subst h9
      obtain ⟨h9,q11m,qx7_11⟩:=f11 rfl
      subst h9
      obtain ⟨h9,q12m,qx7_12⟩:=f12 rfl
      subst h9
      obtain ⟨x7_g13,s9,h9,hg13,hs9,hm13⟩:=f14 rfl
      subst h9
      obtain rfl:s9 = .slice x7_A12 x7_N12 x7_C12:=by simpa using hs9.symm
      clear hs9
      simp only [cond_true] at hc
      have hbs9:∀ x,x∈([⟨x7_g13,#[.slice x7_A12 x7_N12 x7_C12],27⟩,⟨w1.heap.size,#[.slice B2 K2 D2,.slice B1 K1 D1,.slice x6_A9 x6_N9 x6_C9,.slice none 0 0,.slice B5 K5 D5,.bool br],111⟩,⟨w3.heap.size,#[.slice x5_A3 x5_N3 x5_C3],27⟩,⟨w.heap.size+1,#[.bool false,.slice none 0 0,.slice none 0 0],29⟩]:List En)→x∈bs9:=by
       intro x hx
       rcases List.mem_cons.1 hx with rfl|hx
       ·exact hm13
       rcases List.mem_cons.1 hx with rfl|hx
       ·exact (hc.old _ (by simp)).1
       rcases List.mem_cons.1 hx with rfl|hx
       ·exact (hc.old _ (by simp)).1
       rcases List.mem_cons.1 hx with rfl|hx
       ·exact (hc.old _ (by simp)).1
       exact absurd hx List.not_mem_nil
      have hos9:∀ x,x∈([(x7_A5,x7_N5,x7_C5,x7_M5),(x7_A11,x7_N11,x7_C11,x7_M11),(x7_A12,x7_N12,x7_C12,x7_M12),(x6_A9,x6_N9,x6_C9,x6_M9),(x5_A3,x5_N3,x5_C3,x5_M3),(B5,K5,D5,V5),(B2,K2,D2,V2),(B1,K1,D1,V1)]:Os)→x∈os9:=by
       intro x hx
       rcases List.mem_cons.1 hx with rfl|hx
       ·exact q5m
       rcases List.mem_cons.1 hx with rfl|hx
       ·exact q11m
       rcases List.mem_cons.1 hx with rfl|hx
       ·exact q12m
       rcases List.mem_cons.1 hx with rfl|hx
       ·exact hc.oso _ (by simp)
       rcases List.mem_cons.1 hx with rfl|hx
       ·exact hc.oso _ (by simp)
       rcases List.mem_cons.1 hx with rfl|hx
       ·exact hc.oso _ (by simp)
       rcases List.mem_cons.1 hx with rfl|hx
       ·exact hc.oso _ (by simp)
       rcases List.mem_cons.1 hx with rfl|hx
       ·exact hc.oso _ (by simp)
       exact absurd hx List.not_mem_nil
      have hS:=hc.st.sub hbs9 (fun x hx=>hx) hos9
      have hsz9:=hc.sz
      rw [hS9z,hsW9] at hsz9
      have hlx7_g13:=hg13
      rw [hS9z,hsW9] at hlx7_g13
      have hux7_g13:=block_lt (hc.st.bx _ hm13).1
      simp only [] at hux7_g13
      clear hbs9 hos9 hc f0 f1 f2 f3 f4 f5 f6 f7 f8 f9 f10 f11 f12 f13 f14 g11_5 g12_5 g12_11 g14_13 g14_12 g14_5 g14_11
      clear q5m q11m q12m hm13 hg13
      have hz7:=hsz9
      clear hsz9 hS9z hS9 hC9 hsW9
      have Qx7_5:=hide qx7_5
      clear qx7_5
      have Qx7_11:=hide qx7_11
      clear qx7_11
      have Qx7_12:=hide qx7_12
      clear qx7_12
      obtain ⟨⟨k0_0,-⟩,-⟩:=hS.cz ⟨x7_g13,#[.slice x7_A12 x7_N12 x7_C12],27⟩ (by simp)
      obtain ⟨⟨k1_0,k1_1,k1_2,k1_3,k1_4,k1_5,-⟩,-⟩:=hS.cz ⟨w1.heap.size,#[.slice B2 K2 D2,.slice B1 K1 D1,.slice x6_A9 x6_N9 x6_C9,.slice none 0 0,.slice B5 K5 D5,.bool br],111⟩ (by simp)
      obtain ⟨⟨k2_0,k2_1,k2_2,-⟩,-⟩:=hS.cz ⟨w.heap.size+1,#[.bool false,.slice none 0 0,.slice none 0 0],29⟩ (by simp)
      simp only [] at k0_0 k1_0 k1_1 k1_2 k1_3 k1_4 k1_5 k2_0 k2_1 k2_2
      go_wp2_with fail
      clear k0_0 k1_0 k1_1 k1_2 k1_3 k1_4 k1_5 k2_0 k2_1 k2_2
      refine (W_frac hS t x7_A12 B5 x7_N12 K5 x7_C12 D5).mono ?_
      clear hS; rintro en Wz ⟨⟨s7,b7,k7,l7,b8,k8,l8,r7,rfl,q7⟩,hS,hzz⟩
      have Q7:=hide q7
      clear q7
      obtain ⟨⟨k0_0,k0_1,k0_2,-⟩,z0⟩:=hS.cz ⟨w.heap.size+1,#[.bool false,.slice none 0 0,.slice none 0 0],29⟩ (by simp)
      have z0_0:=z0 0
      have z0_1:=z0 1
      have z0_2:=z0 2
      clear z0
      simp only [] at k0_0 z0_0 k0_1 z0_1 k0_2 z0_2
      go_wp2
      have hend:=ap_lt hd1 hd2 hc1 hc2 (unhide QS) (unhide HLW) (Wg:=V2) (Wl:=V1) (Ag:=V4) (Al:=V3) rfl rfl rfl rfl (unhide HLT) (unhide Q3) (unhide Qx5_3) (unhide Qx6_6) (unhide Qx6_9) (unhide Qx7_5) (unhide Qx7_11) (unhide Qx7_12)
      have q7:=unhide Q7
      replace hS:=hS.sub (bs':=[⟨w.heap.size+1,#[.bool false,.slice none 0 0,.slice none 0 0],29⟩]) (ms':=[]) (by intro x hx; rcases List.mem_cons.1 hx with rfl|hx; simp; exact absurd hx List.not_mem_nil) (by intro x hx; exact absurd hx List.not_mem_nil) (fun x hx=>hx)
      have u6:=hS.cellAt (x:=⟨w.heap.size+1,#[.bool false,.slice none 0 0,.slice none 0 0],29⟩) (by simp) 0 (.bool false) rfl
      have y6:=hS.frozen (x:=⟨w.heap.size+1,#[.bool false,.slice none 0 0,.slice none 0 0],29⟩) (by simp) 0
      simp only [] at u6 y6
      replace hS:=hS.put (x:=⟨w.heap.size+1,#[.bool false,.slice none 0 0,.slice none 0 0],29⟩) (by simp) (by simp only []; omega) 0 (.bool s7) (by simp) [⟨w.heap.size+1,#[.bool s7,.slice none 0 0,.slice none 0 0],29⟩] (by intro y hy; rcases List.mem_cons.1 hy with rfl|hy; exact Or.inl rfl; exact absurd hy List.not_mem_nil)
      have u7:=hS.cellAt (x:=⟨w.heap.size+1,#[.bool s7,.slice none 0 0,.slice none 0 0],29⟩) (by simp) 1 (.slice none 0 0) rfl
      have y7:=hS.frozen (x:=⟨w.heap.size+1,#[.bool s7,.slice none 0 0,.slice none 0 0],29⟩) (by simp) 1
      simp only [] at u7 y7
      replace hS:=hS.put (x:=⟨w.heap.size+1,#[.bool s7,.slice none 0 0,.slice none 0 0],29⟩) (by simp) (by simp only []; omega) 1 (.slice b7 k7 l7) (by simp) [⟨w.heap.size+1,#[.bool s7,.slice b7 k7 l7,.slice none 0 0],29⟩] (by intro y hy; rcases List.mem_cons.1 hy with rfl|hy; exact Or.inl rfl; exact absurd hy List.not_mem_nil)
      have u8:=hS.cellAt (x:=⟨w.heap.size+1,#[.bool s7,.slice b7 k7 l7,.slice none 0 0],29⟩) (by simp) 2 (.slice none 0 0) rfl
      have y8:=hS.frozen (x:=⟨w.heap.size+1,#[.bool s7,.slice b7 k7 l7,.slice none 0 0],29⟩) (by simp) 2
      simp only [] at u8 y8
      replace hS:=hS.put (x:=⟨w.heap.size+1,#[.bool s7,.slice b7 k7 l7,.slice none 0 0],29⟩) (by simp) (by simp only []; omega) 2 (.slice b8 k8 l8) (by simp) [⟨w.heap.size+1,#[.bool s7,.slice b7 k7 l7,.slice b8 k8 l8],29⟩] (by intro y hy; rcases List.mem_cons.1 hy with rfl|hy; exact Or.inl rfl; exact absurd hy List.not_mem_nil)
      have hbel:=hS.fr
      refine bodyPost_ret (v:=.tuple #[RatV s7 b7 k7 l7 b8 k8 l8,.int .i64 r7]) (by simp [results,Tryz.results51,go_sem,RatV,k0_0,k0_1,k0_2]) rfl ⟨?_,hbel⟩
      have o1:=hS.ow (x7_A12,x7_N12,x7_C12,x7_M12) (by simp)
      have o2:=hS.ow (B5,K5,D5,V5) (by simp)
      rcases q7 with ⟨h0,rfl,rfl,rfl,rfl,rfl,rfl,rfl,rfl⟩|⟨h0,rfl,rfl,rfl,rfl,rfl,rfl,rfl,rfl⟩
      ·obtain ⟨e1,e2⟩:=hend.1 h0
       have hz1:=o1.num.zero
       simp only [] at o1 o2 hz1
       rw [e1] at o1 hz1
       rw [e2] at o2
       refine Or.inl ⟨_,_,_,_,_,_,?_,o1,o2⟩
       rw [show apSign m1 d1 m2 d2 s t = t from if_pos ((hend.2.2 h0).1 rfl)]
       rw [show decide (k7 = 0) = decide (_ = 0) from decide_eq_decide.2 hz1]
       all_goals rfl
      ·obtain ⟨e1,e2⟩:=hend.2.1 h0
       exact Or.inr ⟨by rw [e1],e2⟩
     ·simp
     ·exact ⟨⟨false,false,false,false,false,false,false,false,false,false,false,false,false,false,false,undef,undef,undef,undef,undef,undef,undef,undef,undef,undef,undef,undef,undef,undef,none,0,0,0,0,none,0,0,0,0,none,0,0,0,0,_,_⟩,rfl,rfl,⟨hC9,nb,nb,nb,nb,nb,nb,nb,nb,nb,nb,nb,nb,nb,nb,nb,nb,nb,nb,nb,nb,nb,nb⟩⟩
    ·simp
    ·exact ⟨⟨false,false,false,false,false,false,false,false,false,false,false,false,undef,undef,undef,undef,undef,undef,undef,undef,undef,undef,undef,none,0,0,0,0,none,0,0,0,0,_,_⟩,rfl,rfl,⟨hC9,nb,nb,nb,nb,nb,nb,nb,nb,nb,nb,nb,(fun _=>by simp),nb,nb,nb,nb,nb,nb,nb⟩⟩
   ·simp
   ·exact ⟨⟨false,false,false,false,false,undef,undef,undef,undef,none,0,0,none,0,0,0,0,_,_⟩,rfl,rfl,⟨hC9,nb,nb,nb,nb,(fun _=>by simp),nb,nb,nb,nb,nb⟩⟩
  ·obtain ⟨r0,hr0,hr1⟩:∃ r,cmpI V4 V3 = r∧0≤r:=by refine ⟨_,rfl,?_⟩; unfold cmpI; rw [if_neg hlt]; split <;> omega
   rw [hr0]
   clear hr0
   have HLT:=hide hlt
   clear hlt
   have HLW:=hide hlow
   clear hlow
   go_wp2_with fail
   replace hS:=hS.sub (bs':=[⟨w3.heap.size,#[.slice yA3 yN3 yC3],27⟩,⟨w1.heap.size,#[.slice B2 K2 D2,.slice B1 K1 D1,.slice B4 K4 D4,.slice B3 K3 D3,.slice B5 K5 D5,.bool br],111⟩,⟨w.heap.size+1,#[.bool false,.slice none 0 0,.slice none 0 0],29⟩]) (ms':=[]) (os':=[(yA3,yN3,yC3,yM3),(B5,K5,D5,V5),(B4,K4,D4,V4),(B3,K3,D3,V3),(B2,K2,D2,V2),(B1,K1,D1,V1)]) (by intro x hx; rcases List.mem_cons.1 hx with rfl|hx; (simp); rcases List.mem_cons.1 hx with rfl|hx; (simp); rcases List.mem_cons.1 hx with rfl|hx; (simp); exact absurd hx List.not_mem_nil) (by intro x hx; exact absurd hx List.not_mem_nil) (by intro x hx; rcases List.mem_cons.1 hx with rfl|hx; (simp); rcases List.mem_cons.1 hx with rfl|hx; (simp); rcases List.mem_cons.1 hx with rfl|hx; (simp); rcases List.mem_cons.1 hx with rfl|hx; (simp); rcases List.mem_cons.1 hx with rfl|hx; (simp); rcases List.mem_cons.1 hx with rfl|hx; (simp); exact absurd hx List.not_mem_nil)
   refine wp_region_any (by kernel_rfl) ?_
   change wpAny _ _ _ _ _ _ _ (World.drew _)
   have hS9:=hS.drew
   have hsW9:(World.drew w4).heap.size = w4.heap.size:=by first|rfl|simp
   generalize World.drew w4 = Wd at hS9 hsW9 ⊢
   obtain ⟨S9,hS9z⟩:∃ x,x = Wd.heap.size:=⟨_,rfl⟩
   have hC9:=Rc.start (bs:=[⟨w3.heap.size,#[.slice yA3 yN3 yC3],27⟩,⟨w1.heap.size,#[.slice B2 K2 D2,.slice B1 K1 D1,.slice B4 K4 D4,.slice B3 K3 D3,.slice B5 K5 D5,.bool br],111⟩,⟨w.heap.size+1,#[.bool false,.slice none 0 0,.slice none 0 0],29⟩]) hS9 (by simp)
   rw [← hS9z] at hC9
   refine wpAny_inv (fun l act w'=>∃ σ,ApaLG5I w p s t a1 a2 a3 a4 n1 n2 n3 n4 c1 c2 c3 c4 B1 B2 B3 B4 B5 K1 K2 K3 K4 K5 D1 D2 D3 D4 D5 V1 V2 V3 V4 V5 w1 br yA3 yN3 yC3 yM3 yE3 w3 r0 S9 l act w' σ) ?_ ?_ _ _ _ _ ?_ ?_
   ·intro l act w' i9 hI9 hi9 hl9
    have hin9:i9 < 15:=by
     by_cases h:i9 < 15
     ·exact h
     ·obtain ⟨⟨⟩,rfl,_⟩:=hI9
      rw [Array.getElem?_eq_none (by simp; omega)] at hl9; cases hl9
    have hcase:i9 = 0∨i9 = 1∨i9 = 2∨i9 = 3∨i9 = 4∨i9 = 5∨i9 = 6∨i9 = 7∨i9 = 8∨i9 = 9∨i9 = 10∨i9 = 11∨i9 = 12∨i9 = 13∨i9 = 14:=by omega
    clear hin9
    obtain ⟨⟨b0,b1,b2,b3,b4,b5,b6,b7,b8,b9,b10,b11,b12,b13,b14,v0,v1,v2,v3,v4,v5,v6,v7,v8,v9,v10,v11,v12,v13,A5,N5,C5,M5,E5,A11,N11,C11,M11,E11,A12,N12,C12,M12,E12,bs9,os9⟩,rfl,rfl,hR⟩:=hI9
    rcases hcase with rfl|rfl|rfl|rfl|rfl|rfl|rfl|rfl|rfl|rfl|rfl|rfl|rfl|rfl|rfl
    ·obtain rfl:b0 = false:=by simpa using hl9
     have hc:=hR.hc
     refine wpOp_step rfl fun K hK=>?_
     go_simp
     exact hK _ _ ⟨⟨_,_,_,_,_,_,_,_,_,_,_,_,_,_,_,_,_,_,_,_,_,_,_,_,_,_,_,_,_,A5,N5,C5,M5,E5,A11,N11,C11,M11,E11,A12,N12,C12,M12,E12,_,_⟩,rfl,rfl,{ hR with hc:=hc,f0:=(fun _=>rfl) }⟩
    ·obtain rfl:b1 = false:=by simpa using hl9
     have hc:=hR.hc
     refine wpOp_step rfl fun K hK=>?_
     go_simp
     exact hK _ _ ⟨⟨_,_,_,_,_,_,_,_,_,_,_,_,_,_,_,_,_,_,_,_,_,_,_,_,_,_,_,_,_,A5,N5,C5,M5,E5,A11,N11,C11,M11,E11,A12,N12,C12,M12,E12,_,_⟩,rfl,rfl,{ hR with hc:=hc,f1:=(fun _=>rfl) }⟩
    ·obtain rfl:b2 = false:=by simpa using hl9
     have hc:=hR.hc
     have c9_0:=hc.st.cellAt (hc.old ⟨w3.heap.size,#[.slice yA3 yN3 yC3],27⟩ (by simp)).1 0 (.slice yA3 yN3 yC3) rfl
     simp only [] at c9_0
     refine wpOp_step rfl fun K hK=>?_
     go_simp
     exact hK _ _ ⟨⟨_,_,_,_,_,_,_,_,_,_,_,_,_,_,_,_,_,_,_,_,_,_,_,_,_,_,_,_,_,A5,N5,C5,M5,E5,A11,N11,C11,M11,E11,A12,N12,C12,M12,E12,_,_⟩,rfl,rfl,{ hR with hc:=hc,f2:=(fun _=>rfl) }⟩
    ·obtain rfl:b3 = false:=by simpa using hl9
     have hc:=hR.hc
     refine wpOp_step rfl fun K hK=>?_
     go_simp
     exact hK _ _ ⟨⟨_,_,_,_,_,_,_,_,_,_,_,_,_,_,_,_,_,_,_,_,_,_,_,_,_,_,_,_,_,A5,N5,C5,M5,E5,A11,N11,C11,M11,E11,A12,N12,C12,M12,E12,_,_⟩,rfl,rfl,{ hR with hc:=hc,f3:=(fun _=>rfl) }⟩
    ·obtain rfl:b4 = false:=by simpa using hl9
     obtain ⟨o9,ho9,hd9⟩:=(mem_ready.1 hi9).2
     cases ho9
     have e3:b3 = true:=hd9 ⟨3,.data⟩ (by simp) rfl
     subst e3
     have h9:=hR.f3 rfl
     subst h9
     have hc:=hR.hc
     have c9_0:=hc.st.cellAt (hc.old ⟨w1.heap.size,#[.slice B2 K2 D2,.slice B1 K1 D1,.slice B4 K4 D4,.slice B3 K3 D3,.slice B5 K5 D5,.bool br],111⟩ (by simp)).1 4 (.slice B5 K5 D5) rfl
     simp only [] at c9_0
     refine wpOp_step rfl fun K hK=>?_
     go_simp
     exact hK _ _ ⟨⟨_,_,_,_,_,_,_,_,_,_,_,_,_,_,_,_,_,_,_,_,_,_,_,_,_,_,_,_,_,A5,N5,C5,M5,E5,A11,N11,C11,M11,E11,A12,N12,C12,M12,E12,_,_⟩,rfl,rfl,{ hR with hc:=hc,f4:=(fun _=>rfl) }⟩
    ·obtain rfl:b5 = false:=by simpa using hl9
     obtain ⟨o9,ho9,hd9⟩:=(mem_ready.1 hi9).2
     cases ho9
     have e1:b1 = true:=hd9 ⟨1,.data⟩ (by simp) rfl
     have e2:b2 = true:=hd9 ⟨2,.data⟩ (by simp) rfl
     have e4:b4 = true:=hd9 ⟨4,.data⟩ (by simp) rfl
     subst e1 e2 e4
     have h9:=hR.f1 rfl
     subst h9
     have h9:=hR.f2 rfl
     subst h9
     have h9:=hR.f4 rfl
     subst h9
     have hc:=hR.hc
     obtain rfl:b11 = false:=by cases h:b11; rfl; exact Bool.noConfusion (hR.g11_5 h)
     obtain rfl:b12 = false:=by cases h:b12; rfl; exact Bool.noConfusion (hR.g12_11 h)
     simp only [cond_false] at hc
     have HR:=hide hR
     clear hR
     refine wpOp_step rfl fun K hK=>?_
     go_simp
     go_wp2_with fail
     refine (W_mul hc.st yC3 D5 (hc.st.ow (yA3,yN3,yC3,yM3) (hc.oso _ (by simp))).num (hc.st.ow (B5,K5,D5,V5) (hc.oso _ (by simp))).num).mono ?_
     rintro en w9 ⟨a9,n9,c9,m9,e9,rfl,hs9,hz,hz9⟩
     have hR:=unhide HR
     exact hK _ _ ⟨⟨_,_,_,_,_,_,_,_,_,_,_,_,_,_,_,_,_,_,_,_,_,_,_,_,_,_,_,_,_,_,_,_,_,_,A11,N11,C11,M11,E11,A12,N12,C12,M12,E12,_,_⟩,rfl,rfl,{ hR with hc:=(hc.call hs9 hz9 (fun y hy=>List.mem_cons_of_mem _ hy)),f5:=(fun _=>⟨rfl,List.mem_cons_self ..,hz⟩),f11:=(fun h=>Bool.noConfusion (hR.g11_5 h)),f12:=(fun h=>Bool.noConfusion (hR.g12_5 h)),f14:=(fun h=>Bool.noConfusion (hR.g14_5 h)),g11_5:=(fun _=>rfl),g12_5:=(fun _=>rfl),g14_5:=(fun _=>rfl) }⟩
    ·obtain rfl:b6 = false:=by simpa using hl9
     have hc:=hR.hc
     refine wpOp_step rfl fun K hK=>?_
     go_simp
     exact hK _ _ ⟨⟨_,_,_,_,_,_,_,_,_,_,_,_,_,_,_,_,_,_,_,_,_,_,_,_,_,_,_,_,_,A5,N5,C5,M5,E5,A11,N11,C11,M11,E11,A12,N12,C12,M12,E12,_,_⟩,rfl,rfl,{ hR with hc:=hc,f6:=(fun _=>rfl) }⟩
    ·obtain rfl:b7 = false:=by simpa using hl9
     have hc:=hR.hc
     refine wpOp_step rfl fun K hK=>?_
     go_simp
     exact hK _ _ ⟨⟨_,_,_,_,_,_,_,_,_,_,_,_,_,_,_,_,_,_,_,_,_,_,_,_,_,_,_,_,_,A5,N5,C5,M5,E5,A11,N11,C11,M11,E11,A12,N12,C12,M12,E12,_,_⟩,rfl,rfl,{ hR with hc:=hc,f7:=(fun _=>rfl) }⟩
    ·obtain rfl:b8 = false:=by simpa using hl9
     obtain ⟨o9,ho9,hd9⟩:=(mem_ready.1 hi9).2
     cases ho9
     have e7:b7 = true:=hd9 ⟨7,.data⟩ (by simp) rfl
     subst e7
     have h9:=hR.f7 rfl
     subst h9
     have hc:=hR.hc
     have c9_0:=hc.st.cellAt (hc.old ⟨w1.heap.size,#[.slice B2 K2 D2,.slice B1 K1 D1,.slice B4 K4 D4,.slice B3 K3 D3,.slice B5 K5 D5,.bool br],111⟩ (by simp)).1 2 (.slice B4 K4 D4) rfl
     simp only [] at c9_0
     refine wpOp_step rfl fun K hK=>?_
     go_simp
     exact hK _ _ ⟨⟨_,_,_,_,_,_,_,_,_,_,_,_,_,_,_,_,_,_,_,_,_,_,_,_,_,_,_,_,_,A5,N5,C5,M5,E5,A11,N11,C11,M11,E11,A12,N12,C12,M12,E12,_,_⟩,rfl,rfl,{ hR with hc:=hc,f8:=(fun _=>rfl) }⟩
    ·obtain rfl:b9 = false:=by simpa using hl9
     have hc:=hR.hc
     refine wpOp_step rfl fun K hK=>?_
     go_simp
     exact hK _ _ ⟨⟨_,_,_,_,_,_,_,_,_,_,_,_,_,_,_,_,_,_,_,_,_,_,_,_,_,_,_,_,_,A5,N5,C5,M5,E5,A11,N11,C11,M11,E11,A12,N12,C12,M12,E12,_,_⟩,rfl,rfl,{ hR with hc:=hc,f9:=(fun _=>rfl) }⟩
    ·obtain rfl:b10 = false:=by simpa using hl9
     obtain ⟨o9,ho9,hd9⟩:=(mem_ready.1 hi9).2
     cases ho9
     have e9:b9 = true:=hd9 ⟨9,.data⟩ (by simp) rfl
     subst e9
     have h9:=hR.f9 rfl
     subst h9
     have hc:=hR.hc
     have c9_0:=hc.st.cellAt (hc.old ⟨w1.heap.size,#[.slice B2 K2 D2,.slice B1 K1 D1,.slice B4 K4 D4,.slice B3 K3 D3,.slice B5 K5 D5,.bool br],111⟩ (by simp)).1 3 (.slice B3 K3 D3) rfl
     simp only [] at c9_0
     refine wpOp_step rfl fun K hK=>?_
     go_simp
     exact hK _ _ ⟨⟨_,_,_,_,_,_,_,_,_,_,_,_,_,_,_,_,_,_,_,_,_,_,_,_,_,_,_,_,_,A5,N5,C5,M5,E5,A11,N11,C11,M11,E11,A12,N12,C12,M12,E12,_,_⟩,rfl,rfl,{ hR with hc:=hc,f10:=(fun _=>rfl) }⟩
    ·obtain rfl:b11 = false:=by simpa using hl9
     obtain ⟨o9,ho9,hd9⟩:=(mem_ready.1 hi9).2
     cases ho9
     have e6:b6 = true:=hd9 ⟨6,.data⟩ (by simp) rfl
     have e8:b8 = true:=hd9 ⟨8,.data⟩ (by simp) rfl
     have e10:b10 = true:=hd9 ⟨10,.data⟩ (by simp) rfl
     have e5:b5 = true:=hd9 ⟨5,.chain⟩ (by simp) rfl
     subst e6 e8 e10 e5
     have h9:=hR.f6 rfl
     subst h9
     have h9:=hR.f8 rfl
     subst h9
     have h9:=hR.f10 rfl
     subst h9
     have q5:=hR.f5 rfl
     obtain ⟨h9,q5m,q5z⟩:=q5
     subst h9
     have hc:=hR.hc
     obtain rfl:b12 = false:=by cases h:b12; rfl; exact Bool.noConfusion (hR.g12_11 h)
     simp only [cond_true,cond_false] at hc
     have HR:=hide hR
     clear hR
     refine wpOp_step rfl fun K hK=>?_
     go_simp
     go_wp2_with fail
     refine (W_sub hc.st D4 D3 (hc.st.ow (B4,K4,D4,V4) (hc.oso _ (by simp))).num (hc.st.ow (B3,K3,D3,V3) (hc.oso _ (by simp))).num).mono ?_
     rintro en w9 ⟨a9,n9,c9,m9,e9,rfl,hs9,hz,hz9⟩
     have hR:=unhide HR
     exact hK _ _ ⟨⟨_,_,_,_,_,_,_,_,_,_,_,_,_,_,_,_,_,_,_,_,_,_,_,_,_,_,_,_,_,A5,N5,C5,M5,E5,_,_,_,_,_,A12,N12,C12,M12,E12,_,_⟩,rfl,rfl,{ hR with hc:=(hc.call hs9 hz9 (fun y hy=>List.mem_cons_of_mem _ hy)),f5:=(fun h=>⟨(hR.f5 h).1,List.mem_cons_of_mem _ (hR.f5 h).2.1,(hR.f5 h).2.2⟩),f11:=(fun _=>⟨rfl,List.mem_cons_self ..,hz⟩),f12:=(fun h=>Bool.noConfusion (hR.g12_11 h)),f14:=(fun h=>Bool.noConfusion (hR.g14_11 h)),g11_5:=(fun _=>rfl),g12_11:=(fun _=>rfl),g14_11:=(fun _=>rfl) }⟩
    ·obtain rfl:b12 = false:=by simpa using hl9
     obtain ⟨o9,ho9,hd9⟩:=(mem_ready.1 hi9).2
     cases ho9
     have e0:b0 = true:=hd9 ⟨0,.data⟩ (by simp) rfl
     have e5:b5 = true:=hd9 ⟨5,.data⟩ (by simp) rfl
     have e11:b11 = true:=hd9 ⟨11,.data⟩ (by simp) rfl
     subst e0 e5 e11
     have h9:=hR.f0 rfl
     subst h9
     have q5:=hR.f5 rfl
     obtain ⟨h9,q5m,q5z⟩:=q5
     subst h9
     have q11:=hR.f11 rfl
     obtain ⟨h9,q11m,q11z⟩:=q11
     subst h9
     have hc:=hR.hc
     simp only [cond_true,cond_false] at hc
     have HR:=hide hR
     clear hR
     refine wpOp_step rfl fun K hK=>?_
     go_simp
     go_wp2_with fail
     refine (W_add hc.st C5 C11 (hc.st.ow _ q5m).num (hc.st.ow _ q11m).num).mono ?_
     rintro en w9 ⟨a9,n9,c9,m9,e9,rfl,hs9,hz,hz9⟩
     have hR:=unhide HR
     exact hK _ _ ⟨⟨_,_,_,_,_,_,_,_,_,_,_,_,_,_,_,_,_,_,_,_,_,_,_,_,_,_,_,_,_,A5,N5,C5,M5,E5,A11,N11,C11,M11,E11,_,_,_,_,_,_,_⟩,rfl,rfl,{ hR with hc:=(hc.call hs9 hz9 (fun y hy=>List.mem_cons_of_mem _ hy)),f5:=(fun h=>⟨(hR.f5 h).1,List.mem_cons_of_mem _ (hR.f5 h).2.1,(hR.f5 h).2.2⟩),f11:=(fun h=>⟨(hR.f11 h).1,List.mem_cons_of_mem _ (hR.f11 h).2.1,(hR.f11 h).2.2⟩),f12:=(fun _=>⟨rfl,List.mem_cons_self ..,hz⟩),f14:=(fun h=>Bool.noConfusion (hR.g14_12 h)),g12_5:=(fun _=>rfl),g12_11:=(fun _=>rfl),g14_12:=(fun _=>rfl) }⟩
    ·obtain rfl:b13 = false:=by simpa using hl9
     have hc:=hR.hc
     refine wpOp_step rfl fun K hK=>?_
     go_simp
     exact hK _ _ ⟨⟨_,_,_,_,_,_,_,_,_,_,_,_,_,_,_,_,_,_,_,_,_,_,_,_,_,_,_,_,_,A5,N5,C5,M5,E5,A11,N11,C11,M11,E11,A12,N12,C12,M12,E12,_,_⟩,rfl,rfl,{ hR with hc:=(hc.alloc #[.slice none 0 0] 27),f13:=(fun _=>AlV.self rfl hc.sz),f14:=(fun h=>Bool.noConfusion (hR.g14_13 h)),g14_13:=(fun _=>rfl) }⟩
    ·obtain rfl:b14 = false:=by simpa using hl9
     obtain ⟨o9,ho9,hd9⟩:=(mem_ready.1 hi9).2
     cases ho9
     have e12:b12 = true:=hd9 ⟨12,.data⟩ (by simp) rfl
     have e13:b13 = true:=hd9 ⟨13,.data⟩ (by simp) rfl
     subst e12 e13
     have q12:=hR.f12 rfl
     obtain ⟨h9,q12m,q12z⟩:=q12
     subst h9
     have hc:=hR.hc
     obtain ⟨g9,s9,h9,hg9,hm9⟩:=hR.f13 rfl
     subst h9
     have fz9:=hc.st.frozen hm9 0
     have cz9:=hc.st.cellAt hm9 0 s9 rfl
     simp only [] at fz9 cz9
     have hn9:∀ x,x∈([⟨w3.heap.size,#[.slice yA3 yN3 yC3],27⟩,⟨w1.heap.size,#[.slice B2 K2 D2,.slice B1 K1 D1,.slice B4 K4 D4,.slice B3 K3 D3,.slice B5 K5 D5,.bool br],111⟩,⟨w.heap.size+1,#[.bool false,.slice none 0 0,.slice none 0 0],29⟩]:List En)→x.b≠g9:=fun x hx=>by have:=(hc.old x hx).2; omega
     refine wpOp_step rfl fun K hK=>?_
     go_simp
     exact hK _ _ ⟨⟨_,_,_,_,_,_,_,_,_,_,_,_,_,_,_,_,_,_,_,_,_,_,_,_,_,_,_,_,_,A5,N5,C5,M5,E5,A11,N11,C11,M11,E11,A12,N12,C12,M12,E12,_,_⟩,rfl,rfl,{ hR with hc:=(hc.store hm9 (by have:=hc.w0s; omega) hn9 0 (.slice A12 N12 C12) (by simp)),f13:=(fun _=>AlV.self rfl hg9),f14:=(fun _=>⟨g9,_,rfl,hg9,rfl,List.mem_cons_self ..⟩),g14_13:=(fun _=>rfl),g14_12:=(fun _=>rfl),g14_5:=(fun _=>hR.g12_5 rfl),g14_11:=(fun _=>hR.g12_11 rfl) }⟩
   ·rintro l act Wq5 ⟨⟨b0,b1,b2,b3,b4,b5,b6,b7,b8,b9,b10,b11,b12,b13,b14,v0,v1,v2,v3,v4,v5,v6,v7,v8,v9,v10,v11,v12,v13,x5_A5,x5_N5,x5_C5,x5_M5,x5_E5,x5_A11,x5_N11,x5_C11,x5_M11,x5_E11,x5_A12,x5_N12,x5_C12,x5_M12,x5_E12,bs9,os9⟩,rfl,rfl,hR⟩ hr9
    obtain ⟨hc,f0,f1,f2,f3,f4,f5,f6,f7,f8,f9,f10,f11,f12,f13,f14,g11_5,g12_5,g12_11,g14_13,g14_12,g14_5,g14_11⟩:=hR
    have eall:=all_done hr9 (by kernel_rfl) rfl
    obtain rfl:b0 = true:=eall 0 (by decide)
    obtain rfl:b1 = true:=eall 1 (by decide)
    obtain rfl:b2 = true:=eall 2 (by decide)
    obtain rfl:b3 = true:=eall 3 (by decide)
    obtain rfl:b4 = true:=eall 4 (by decide)
    obtain rfl:b5 = true:=eall 5 (by decide)
    obtain rfl:b6 = true:=eall 6 (by decide)
    obtain rfl:b7 = true:=eall 7 (by decide)
    obtain rfl:b8 = true:=eall 8 (by decide)
    obtain rfl:b9 = true:=eall 9 (by decide)
    obtain rfl:b10 = true:=eall 10 (by decide)
    obtain rfl:b11 = true:=eall 11 (by decide)
    obtain rfl:b12 = true:=eall 12 (by decide)
    obtain rfl:b13 = true:=eall 13 (by decide)
    obtain rfl:b14 = true:=eall 14 (by decide)
    clear hr9 eall
    have h9:=f0 rfl
    subst h9
    have h9:=f1 rfl
    subst h9
    have h9:=f2 rfl
    subst h9
    have h9:=f3 rfl
    subst h9
    have h9:=f4 rfl
    subst h9
    obtain ⟨h9,q5m,qx5_5⟩:=f5 rfl
    subst h9
    have h9:=f6 rfl
    subst h9
    have h9:=f7 rfl
    subst h9
    have h9:=f8 rfl
    subst h9
    have h9:=f9 rfl
    subst h9
    have h9:=f10 rfl
    subst h9
    obtain ⟨h9,q11m,qx5_11⟩:=f11 rfl
    subst h9
    obtain ⟨h9,q12m,qx5_12⟩:=f12 rfl
    subst h9
    obtain ⟨x5_g13,s9,h9,hg13,hs9,hm13⟩:=f14 rfl
    subst h9
    obtain rfl:s9 = .slice x5_A12 x5_N12 x5_C12:=by simpa using hs9.symm
    clear hs9
    simp only [cond_true] at hc
    have hbs9:∀ x,x∈([⟨x5_g13,#[.slice x5_A12 x5_N12 x5_C12],27⟩,⟨w3.heap.size,#[.slice yA3 yN3 yC3],27⟩,⟨w1.heap.size,#[.slice B2 K2 D2,.slice B1 K1 D1,.slice B4 K4 D4,.slice B3 K3 D3,.slice B5 K5 D5,.bool br],111⟩,⟨w.heap.size+1,#[.bool false,.slice none 0 0,.slice none 0 0],29⟩]:List En)→x∈bs9:=by
     intro x hx
     rcases List.mem_cons.1 hx with rfl|hx
     ·exact hm13
     rcases List.mem_cons.1 hx with rfl|hx
     ·exact (hc.old _ (by simp)).1
     rcases List.mem_cons.1 hx with rfl|hx
     ·exact (hc.old _ (by simp)).1
     rcases List.mem_cons.1 hx with rfl|hx
     ·exact (hc.old _ (by simp)).1
     exact absurd hx List.not_mem_nil
    have hos9:∀ x,x∈([(x5_A5,x5_N5,x5_C5,x5_M5),(x5_A11,x5_N11,x5_C11,x5_M11),(x5_A12,x5_N12,x5_C12,x5_M12),(yA3,yN3,yC3,yM3),(B5,K5,D5,V5),(B4,K4,D4,V4),(B3,K3,D3,V3),(B2,K2,D2,V2),(B1,K1,D1,V1)]:Os)→x∈os9:=by
     intro x hx
     rcases List.mem_cons.1 hx with rfl|hx
     ·exact q5m
     rcases List.mem_cons.1 hx with rfl|hx
     ·exact q11m
     rcases List.mem_cons.1 hx with rfl|hx
     ·exact q12m
     rcases List.mem_cons.1 hx with rfl|hx
     ·exact hc.oso _ (by simp)
     rcases List.mem_cons.1 hx with rfl|hx
     ·exact hc.oso _ (by simp)
     rcases List.mem_cons.1 hx with rfl|hx
     ·exact hc.oso _ (by simp)
     rcases List.mem_cons.1 hx with rfl|hx
     ·exact hc.oso _ (by simp)
     rcases List.mem_cons.1 hx with rfl|hx
     ·exact hc.oso _ (by simp)
     rcases List.mem_cons.1 hx with rfl|hx
     ·exact hc.oso _ (by simp)
     exact absurd hx List.not_mem_nil
    have hS:=hc.st.sub hbs9 (fun x hx=>hx) hos9
    have hsz9:=hc.sz
    rw [hS9z,hsW9] at hsz9
    have hlx5_g13:=hg13
    rw [hS9z,hsW9] at hlx5_g13
    have hux5_g13:=block_lt (hc.st.bx _ hm13).1
    simp only [] at hux5_g13
    clear hbs9 hos9 hc f0 f1 f2 f3 f4 f5 f6 f7 f8 f9 f10 f11 f12 f13 f14 g11_5 g12_5 g12_11 g14_13 g14_12 g14_5 g14_11
    clear q5m q11m q12m hm13 hg13
    have hz5:=hsz9
    clear hsz9 hS9z hS9 hC9 hsW9
    have Qx5_5:=hide qx5_5
    clear qx5_5
    have Qx5_11:=hide qx5_11
    clear qx5_11
    have Qx5_12:=hide qx5_12
    clear qx5_12
    obtain ⟨⟨k0_0,-⟩,-⟩:=hS.cz ⟨x5_g13,#[.slice x5_A12 x5_N12 x5_C12],27⟩ (by simp)
    obtain ⟨⟨k1_0,k1_1,k1_2,k1_3,k1_4,k1_5,-⟩,-⟩:=hS.cz ⟨w1.heap.size,#[.slice B2 K2 D2,.slice B1 K1 D1,.slice B4 K4 D4,.slice B3 K3 D3,.slice B5 K5 D5,.bool br],111⟩ (by simp)
    obtain ⟨⟨k2_0,k2_1,k2_2,-⟩,-⟩:=hS.cz ⟨w.heap.size+1,#[.bool false,.slice none 0 0,.slice none 0 0],29⟩ (by simp)
    simp only [] at k0_0 k1_0 k1_1 k1_2 k1_3 k1_4 k1_5 k2_0 k2_1 k2_2
    go_wp2_with fail
    clear k0_0 k1_0 k1_1 k1_2 k1_3 k1_4 k1_5 k2_0 k2_1 k2_2
    refine (W_frac hS t x5_A12 B5 x5_N12 K5 x5_C12 D5).mono ?_
    clear hS; rintro en Wz ⟨⟨s7,b7,k7,l7,b8,k8,l8,r7,rfl,q7⟩,hS,hzz⟩
    have Q7:=hide q7
    clear q7
    obtain ⟨⟨k0_0,k0_1,k0_2,-⟩,z0⟩:=hS.cz ⟨w.heap.size+1,#[.bool false,.slice none 0 0,.slice none 0 0],29⟩ (by simp)
    have z0_0:=z0 0
    have z0_1:=z0 1
    have z0_2:=z0 2
    clear z0
    simp only [] at k0_0 z0_0 k0_1 z0_1 k0_2 z0_2
    go_wp2
    have hend:=ap_ge hd1 hd2 hc1 hc2 (unhide QS) (unhide HLW) (Wg:=V2) (Wl:=V1) (Ag:=V4) (Al:=V3) rfl rfl rfl rfl (unhide HLT) (unhide Q3) (unhide Qx5_5) (unhide Qx5_11) (unhide Qx5_12)
    have q7:=unhide Q7
    replace hS:=hS.sub (bs':=[⟨w.heap.size+1,#[.bool false,.slice none 0 0,.slice none 0 0],29⟩]) (ms':=[]) (by intro x hx; rcases List.mem_cons.1 hx with rfl|hx; simp; exact absurd hx List.not_mem_nil) (by intro x hx; exact absurd hx List.not_mem_nil) (fun x hx=>hx)
    have u5:=hS.cellAt (x:=⟨w.heap.size+1,#[.bool false,.slice none 0 0,.slice none 0 0],29⟩) (by simp) 0 (.bool false) rfl
    have y5:=hS.frozen (x:=⟨w.heap.size+1,#[.bool false,.slice none 0 0,.slice none 0 0],29⟩) (by simp) 0
    simp only [] at u5 y5
    replace hS:=hS.put (x:=⟨w.heap.size+1,#[.bool false,.slice none 0 0,.slice none 0 0],29⟩) (by simp) (by simp only []; omega) 0 (.bool s7) (by simp) [⟨w.heap.size+1,#[.bool s7,.slice none 0 0,.slice none 0 0],29⟩] (by intro y hy; rcases List.mem_cons.1 hy with rfl|hy; exact Or.inl rfl; exact absurd hy List.not_mem_nil)
    have u6:=hS.cellAt (x:=⟨w.heap.size+1,#[.bool s7,.slice none 0 0,.slice none 0 0],29⟩) (by simp) 1 (.slice none 0 0) rfl
    have y6:=hS.frozen (x:=⟨w.heap.size+1,#[.bool s7,.slice none 0 0,.slice none 0 0],29⟩) (by simp) 1
    simp only [] at u6 y6
    replace hS:=hS.put (x:=⟨w.heap.size+1,#[.bool s7,.slice none 0 0,.slice none 0 0],29⟩) (by simp) (by simp only []; omega) 1 (.slice b7 k7 l7) (by simp) [⟨w.heap.size+1,#[.bool s7,.slice b7 k7 l7,.slice none 0 0],29⟩] (by intro y hy; rcases List.mem_cons.1 hy with rfl|hy; exact Or.inl rfl; exact absurd hy List.not_mem_nil)
    have u7:=hS.cellAt (x:=⟨w.heap.size+1,#[.bool s7,.slice b7 k7 l7,.slice none 0 0],29⟩) (by simp) 2 (.slice none 0 0) rfl
    have y7:=hS.frozen (x:=⟨w.heap.size+1,#[.bool s7,.slice b7 k7 l7,.slice none 0 0],29⟩) (by simp) 2
    simp only [] at u7 y7
    replace hS:=hS.put (x:=⟨w.heap.size+1,#[.bool s7,.slice b7 k7 l7,.slice none 0 0],29⟩) (by simp) (by simp only []; omega) 2 (.slice b8 k8 l8) (by simp) [⟨w.heap.size+1,#[.bool s7,.slice b7 k7 l7,.slice b8 k8 l8],29⟩] (by intro y hy; rcases List.mem_cons.1 hy with rfl|hy; exact Or.inl rfl; exact absurd hy List.not_mem_nil)
    have hbel:=hS.fr
    refine bodyPost_ret (v:=.tuple #[RatV s7 b7 k7 l7 b8 k8 l8,.int .i64 r7]) (by simp [results,Tryz.results51,go_sem,RatV,k0_0,k0_1,k0_2]) rfl ⟨?_,hbel⟩
    have o1:=hS.ow (x5_A12,x5_N12,x5_C12,x5_M12) (by simp)
    have o2:=hS.ow (B5,K5,D5,V5) (by simp)
    rcases q7 with ⟨h0,rfl,rfl,rfl,rfl,rfl,rfl,rfl,rfl⟩|⟨h0,rfl,rfl,rfl,rfl,rfl,rfl,rfl,rfl⟩
    ·obtain ⟨e1,e2⟩:=hend.1 h0
     have hz1:=o1.num.zero
     simp only [] at o1 o2 hz1
     rw [e1] at o1 hz1
     rw [e2] at o2
     refine Or.inl ⟨_,_,_,_,_,_,?_,o1,o2⟩
     rw [show apSign m1 d1 m2 d2 s t = t from if_pos ((hend.2.2 h0).1 rfl)]
     rw [show decide (k7 = 0) = decide (_ = 0) from decide_eq_decide.2 hz1]
     all_goals rfl
    ·obtain ⟨e1,e2⟩:=hend.2.1 h0
     exact Or.inr ⟨by rw [e1],e2⟩
   ·simp
   ·exact ⟨⟨false,false,false,false,false,false,false,false,false,false,false,false,false,false,false,undef,undef,undef,undef,undef,undef,undef,undef,undef,undef,undef,undef,undef,undef,none,0,0,0,0,none,0,0,0,0,none,0,0,0,0,_,_⟩,rfl,rfl,⟨hC9,nb,nb,nb,nb,nb,nb,nb,nb,nb,nb,nb,nb,nb,nb,nb,nb,nb,nb,nb,nb,nb,nb⟩⟩
end Go.Proofs.YtfhmbnnlcjdblaaGreat
