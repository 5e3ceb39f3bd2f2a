/- Of what RatioOrderRow stands on: RSplitW RTog RMake. -/
import Derived.Test.YtfhmbnnlcjdblaaGreatPat
import Derived.Test.YtfhmbnnlcjdblaaGreatPau
import Derived.Test.YtfhmbnnlcjdblaaGreatPas
namespace Go.Proofs.YtfhmbnnlcjdblaaGreat
open Go.RowKit
set_option maxHeartbeats 16000000
set_option maxRecDepth 20000
def SpW (w0 W:World) (p:Nat) (e:Int) (bs:List En) (ms:Ms) (os:Os) (same:Bool) (n1 d1 n2 d2:Nat) (en:Ending) (W':World):Prop:=
 ∃ a1 k1 c1 a2 k2 c2 a3 k3 c3 a4 k4 c4 a5 k5 c5 W1 W2 A B D br e',en = .returned (.agg #[.slice a1 k1 c1,.slice a2 k2 c2,.slice a3 k3 c3,.slice a4 k4 c4,.slice a5 k5 c5,.bool br]) ∧
  Rs w0 W' (some (p,e')) bs ms ((a5,k5,c5,D) :: (a4,k4,c4,B) :: (a3,k3,c3,A) :: (a2,k2,c2,W2) :: (a1,k1,c1,W1) :: os)∧Sp e e' same n1 d1 n2 d2 W1 W2 A B D br∧W.heap.size≤W'.heap.size
theorem SpW.of {w0 W:World} {p:Nat} {e:Int} {bs:List En} {ms:Ms} {os:Os} {same:Bool} {n1 d1 n2 d2:Nat} (hS:Rs w0 W (some (p,e)) bs ms os) {en:Ending} {W':World} (h:SpAns p e W same n1 d1 n2 d2 en W'):SpW w0 W p e bs ms os same n1 d1 n2 d2 en W':=by
 obtain ⟨a1,k1,c1,a2,k2,c2,a3,k3,c3,a4,k4,c4,a5,k5,c5,W1,W2,A,B,D,br,e',he,m1,m2,m3,m4,m5,hs,hk,hb⟩:=h
 exact ⟨a1,k1,c1,a2,k2,c2,a3,k3,c3,a4,k4,c4,a5,k5,c5,W1,W2,A,B,D,br,e',he,(((((hS.call hb hk).own m1 hS.size).own m2 hS.size).own m3 hS.size).own m4 hS.size).own m5 hS.size,hs,hb.size⟩
theorem W_splitS {w0 W:World} {p:Nat} {e:Int} {bs:List En} {ms:Ms} {os:Os} (hS:Rs w0 W (some (p,e)) bs ms os) (s:Bool) {a1 a2 a3 a4:Option Addr} {n1 n2 n3 n4 m1 d1 m2 d2:Nat} (c1 c2 c3 c4:Nat) (h1:Num W a1 n1 m1) (h2:Num W a2 n2 d1) (h3:Num W a3 n3 m2) (h4:Num W a4 n4 d2) (hd1:0 < d1) (hd2:0 < d2) (hc1:Nat.gcd m1 d1 = 1) (hc2:Nat.gcd m2 d2 = 1) :
  Calls Tryz.prog 72 #[.pointer (some ⟨p,0,none⟩),.agg #[.bool s,.slice a1 n1 c1,.slice a2 n2 c2,.bool s,.slice a3 n3 c3,.slice a4 n4 c4]] W (SpW w0 W p e bs ms os true m1 d1 m2 d2):=
 (splitS_any p e s a1 a2 a3 a4 n1 n2 n3 n4 c1 c2 c3 c4 m1 d1 m2 d2 W hS.wk h1 h2 h3 h4 hd1 hd2 hc1 hc2).mono fun _ _ h=>SpW.of hS h
theorem W_splitD {w0 W:World} {p:Nat} {e:Int} {bs:List En} {ms:Ms} {os:Os} (hS:Rs w0 W (some (p,e)) bs ms os) (s t:Bool) {a1 a2 a3 a4:Option Addr} {n1 n2 n3 n4 m1 d1 m2 d2:Nat} (c1 c2 c3 c4:Nat) (h1:Num W a1 n1 m1) (h2:Num W a2 n2 d1) (h3:Num W a3 n3 m2) (h4:Num W a4 n4 d2) (hd1:0 < d1) (hd2:0 < d2) (hc1:Nat.gcd m1 d1 = 1) (hc2:Nat.gcd m2 d2 = 1) (hst:(s == t) = false) :
  Calls Tryz.prog 72 #[.pointer (some ⟨p,0,none⟩),.agg #[.bool s,.slice a1 n1 c1,.slice a2 n2 c2,.bool t,.slice a3 n3 c3,.slice a4 n4 c4]] W (SpW w0 W p e bs ms os false m1 d1 m2 d2):=
 (splitD_any p e s t a1 a2 a3 a4 n1 n2 n3 n4 c1 c2 c3 c4 m1 d1 m2 d2 W hS.wk h1 h2 h3 h4 hd1 hd2 hc1 hc2 hst).mono fun _ _ h=>SpW.of hS h
theorem tog_end {e1 e2 e3 e4 e5 e6:Int} {n1 d1 n2 d2 W1 W2 A B D M M2 X Y N:Nat} {br:Bool} (hd1:0 < d1) (hd2:0 < d2) (hc1:Nat.gcd n1 d1 = 1) (hc2:Nat.gcd n2 d2 = 1)
  (q1:Sp 0 e1 true n1 d1 n2 d2 W1 W2 A B D br) (q2:Wz e1 e2 M (A+B) (Over (A+B))) (q3:if br then Wz e2 e3 M2 (M+1) (Over (M+1)) else e3 = e2∧M2 = M)
  (q4:Wz e3 e4 X (W1+W2) (Over (W1+W2))) (q5:Wz e4 e5 Y (X * D) (Over (X * D))) (q6:Wz e5 e6 N (M2+Y) (Over (M2+Y))) :
  (e6 = 0→N = Rm.snum n1 d1 n2 d2∧D = Rm.sden true n1 d1 n2 d2)∧(e6≠0→e6 = 4∧(Over (Rm.snum n1 d1 n2 d2)∨Over (Rm.sden true n1 d1 n2 d2))):=by
 have hsn:Rm.snum n1 d1 n2 d2 = (n1 / d1+n2 / d2) * Rm.sden true n1 d1 n2 d2+(Rm.partA true n1 d1 n2 d2+Rm.partB true n1 d1 n2 d2+(if Rm.broken true n1 d1 n2 d2 = 0 then 0 else 1)):=rfl
 obtain ⟨_,_,_,_,_,_,_,_,_,_,P⟩:=Rm.parts true hd1 hd2 hc1 hc2
 have hD0:=P.D0
 have f1:=q1.ok
 have f1m:=q1.many
 have q3':e3 = 0→e2 = 0∧M2 = M+(if br then 1 else 0):=by
  cases br
  ·rintro h; obtain ⟨a,b⟩:=q3; exact ⟨by omega,by simpa using b⟩
  ·intro h; exact ⟨(Wz.ok q3 h).1,by simpa using (Wz.ok q3 h).2⟩
 generalize Rm.sden true n1 d1 n2 d2 = D' at *
 generalize Rm.partA true n1 d1 n2 d2 = A' at *
 generalize Rm.partB true n1 d1 n2 d2 = B' at *
 generalize Rm.broken true n1 d1 n2 d2 = bk at *
 have hbr:e1 = 0→(if br then 1 else 0) = (if bk = 0 then 0 else 1):=fun h=>by
  rw [(f1 h).2.2.2.2.2.2]; by_cases h0:bk = 0 <;> simp [h0]
 have i2:e2 = 0→e1 = 0:=fun h=>(q2.ok h).1
 have i4:e4 = 0→e3 = 0:=fun h=>(q4.ok h).1
 have i5:e5 = 0→e4 = 0:=fun h=>(q5.ok h).1
 have g2:e2 = 0→M = A'+B':=fun h=>by have k:=f1 (i2 h); rw [(q2.ok h).2,k.2.2.2.1,k.2.2.2.2.1]
 have g3:e3 = 0→M2 = A'+B'+(if bk = 0 then 0 else 1):=fun h=>by rw [(q3' h).2,g2 (q3' h).1,hbr (i2 (q3' h).1)]
 have g4:e4 = 0→X = n1 / d1+n2 / d2:=fun h=>by have k:=f1 (i2 (q3' (i4 h)).1); rw [(q4.ok h).2,k.2.1,k.2.2.1]
 have g5:e5 = 0→Y = (n1 / d1+n2 / d2) * D':=fun h=>by have k:=f1 (i2 (q3' (i4 (i5 h))).1); rw [(q5.ok h).2,g4 (i5 h),k.2.2.2.2.2.1]
 have hle:n1 / d1+n2 / d2≤(n1 / d1+n2 / d2) * D':=Nat.le_mul_of_pos_right _ hD0
 refine ⟨fun h=>?_,fun h=>?_⟩
 ·have h5:=(q6.ok h).1
  have h4:=i5 h5
  have h3:=i4 h4
  refine ⟨?_,(f1 (i2 (q3' h3).1)).2.2.2.2.2.1⟩
  rw [(q6.ok h).2,g3 h3,g5 h5,hsn]; omega
 ·have s1:Sf e1 (Over (Rm.snum n1 d1 n2 d2)∨Over D'):=by
   by_cases h1:e1 = 0
   ·exact Or.inl h1
   ·obtain ⟨a,b⟩:=f1m rfl h1; exact Or.inr ⟨a,Or.inr b⟩
  have s2:=q2.next s1 (fun h o=>Or.inl (o.mono (by have k:=f1 h; rw [k.2.2.2.1,k.2.2.2.2.1,hsn]; omega)))
  have s3:Sf e3 (Over (Rm.snum n1 d1 n2 d2)∨Over D'):=by
   cases br
   ·obtain ⟨a,b⟩:=q3; rw [a]; exact s2
   ·refine Wz.next q3 s2 (fun h o=>Or.inl (o.mono ?_))
    have:=hbr (i2 h)
    rw [g2 h,hsn,← this]; simp
  have s4:=q4.next s3 (fun h o=>Or.inl (o.mono (by have k:=f1 (i2 (q3' h).1); rw [k.2.1,k.2.2.1,hsn]; omega)))
  have s5:=q5.next s4 (fun h o=>Or.inl (o.mono (by have k:=f1 (i2 (q3' (i4 h)).1); rw [g4 h,k.2.2.2.2.2.1,hsn]; omega)))
  have s6:=q6.next s5 (fun h o=>Or.inl (o.mono (by rw [g3 (i4 (i5 h)),g5 h,hsn]; omega)))
  rcases s6 with s6|s6
  ·exact absurd s6 h
  ·exact s6
structure TogF3S where
 (b0 b1 b2 b3 b4 b5 b6 b7 b8 b9 b10 b11 b12 b13:Bool)
 (v0 v1 v2 v3 v4 v5 v6 v7 v8 v9 v10 v11 v12:Value)
 (A8:Option Addr)
 (N8 C8:Nat)
 (M8:Nat)
 (E8:Int)
 (A11:Option Addr)
 (N11 C11:Nat)
 (M11:Nat)
 (E11:Int)
 (A12:Option Addr)
 (N12 C12:Nat)
 (M12:Nat)
 (E12:Int)
 bs9:List En
 os9:Os
structure TogF3R (w:World) (p:Nat) (s:Bool) (a1 a2 a3 a4:Option Addr) (n1 n2 n3 n4 c1 c2 c3 c4 m1 d1 m2 d2:Nat) (B1 B2 B3 B4 B5:Option Addr) (K1 K2 K3 K4 K5 D1 D2 D3 D4 D5 V1 V2 V3 V4 V5:Nat) (w1:World) (yA2:Option Addr) (yN2 yC2 yM2:Nat) (yE2:Int) (w2:World) (S9:Nat) (b0 b1 b2 b3 b4 b5 b6 b7 b8 b9 b10 b11 b12 b13:Bool) (v0 v1 v2 v3 v4 v5 v6 v7 v8 v9 v10 v11 v12:Value) (A8:Option Addr) (N8 C8:Nat) (M8:Nat) (E8:Int) (A11:Option Addr) (N11 C11:Nat) (M11:Nat) (E11:Int) (A12:Option Addr) (N12 C12:Nat) (M12:Nat) (E12:Int) (bs9:List En) (os9:Os) (w':World):Prop where
 hc:Rc w S9 [⟨w1.heap.size,#[.slice B1 K1 D1,.slice B2 K2 D2,.slice B3 K3 D3,.slice B4 K4 D4,.slice B5 K5 D5,.bool false],111⟩,⟨w.heap.size+1,#[.bool false,.slice none 0 0,.slice none 0 0],29⟩,⟨w.heap.size,#[.bool s,.slice a1 n1 c1,.slice a2 n2 c2,.bool s,.slice a3 n3 c3,.slice a4 n4 c4],52⟩] [(a4,n4,d2),(a3,n3,m2),(a2,n2,d1),(a1,n1,m1)] [(yA2,yN2,yC2,yM2),(B5,K5,D5,V5),(B4,K4,D4,V4),(B3,K3,D3,V3),(B2,K2,D2,V2),(B1,K1,D1,V1)] (some ((p),(cond b12 E12 (cond b11 E11 (cond b8 E8 yE2))))) bs9 os9 w'
 f0:b0 = true→v0 = .pointer (some ⟨p,0,none⟩)
 f1:b1 = true→v1 = .agg #[.slice yA2 yN2 yC2]
 f2:b2 = true→v2 = .pointer (some ⟨p,0,none⟩)
 f3:b3 = true→v3 = .pointer (some ⟨p,0,none⟩)
 f4:b4 = true→v4 = .pointer (some ⟨w1.heap.size,0,none⟩)
 f5:b5 = true→v5 = .agg #[.slice B1 K1 D1]
 f6:b6 = true→v6 = .pointer (some ⟨w1.heap.size,1,none⟩)
 f7:b7 = true→v7 = .agg #[.slice B2 K2 D2]
 f8:b8 = true→v8 = .agg #[.slice A8 N8 C8]∧(A8,N8,C8,M8)∈os9∧Wz yE2 E8 M8 (V1+V2) (Over (V1+V2))
 f9:b9 = true→v9 = .pointer (some ⟨w1.heap.size,4,none⟩)
 f10:b10 = true→v10 = .agg #[.slice B5 K5 D5]
 f11:b11 = true→v11 = .agg #[.slice A11 N11 C11]∧(A11,N11,C11,M11)∈os9∧Wz E8 E11 M11 (M8 * V5) (Over (M8 * V5))
 f12:b12 = true→v12 = .agg #[.slice A12 N12 C12]∧(A12,N12,C12,M12)∈os9∧Wz E11 E12 M12 (yM2+M11) (Over (yM2+M11))
 o0_0:b13 = false→⟨w2.heap.size,#[.slice yA2 yN2 yC2],27⟩∈bs9
 o0_1:b13 = true→⟨w2.heap.size,#[.slice A12 N12 C12],27⟩∈bs9
 g13_1:b13 = true→b1 = true
 g11_8:b11 = true→b8 = true
 g12_11:b12 = true→b11 = true
 g12_8:b12 = true→b8 = true
 g13_12:b13 = true→b12 = true
 g13_11:b13 = true→b11 = true
 g13_8:b13 = true→b8 = true
def TogF3I (w:World) (p:Nat) (s:Bool) (a1 a2 a3 a4:Option Addr) (n1 n2 n3 n4 c1 c2 c3 c4 m1 d1 m2 d2:Nat) (B1 B2 B3 B4 B5:Option Addr) (K1 K2 K3 K4 K5 D1 D2 D3 D4 D5 V1 V2 V3 V4 V5:Nat) (w1:World) (yA2:Option Addr) (yN2 yC2 yM2:Nat) (yE2:Int) (w2:World) (S9:Nat) (l:Array Bool) (act:Act) (w':World):TogF3S→Prop
 | ⟨b0,b1,b2,b3,b4,b5,b6,b7,b8,b9,b10,b11,b12,b13,v0,v1,v2,v3,v4,v5,v6,v7,v8,v9,v10,v11,v12,A8,N8,C8,M8,E8,A11,N11,C11,M11,E11,A12,N12,C12,M12,E12,bs9,os9⟩=>l = #[b0,b1,b2,b3,b4,b5,b6,b7,b8,b9,b10,b11,b12,b13]∧act = { tmps:=#[.pointer (some ⟨p,0,none⟩),.agg #[.bool s,.slice a1 n1 c1,.slice a2 n2 c2,.bool s,.slice a3 n3 c3,.slice a4 n4 c4],undef,.pointer (some ⟨w.heap.size,0,none⟩),.pointer (some ⟨w.heap.size+1,0,none⟩),.int .i64 0,.pointer (some ⟨w1.heap.size,0,none⟩),.pointer (some ⟨w2.heap.size,0,none⟩),.pointer (some ⟨p,0,none⟩),.agg #[.bool s,.slice a1 n1 c1,.slice a2 n2 c2,.bool s,.slice a3 n3 c3,.slice a4 n4 c4],.agg #[.slice B1 K1 D1,.slice B2 K2 D2,.slice B3 K3 D3,.slice B4 K4 D4,.slice B5 K5 D5,.bool false],.pointer (some ⟨p,0,none⟩),.pointer (some ⟨w1.heap.size,2,none⟩),.agg #[.slice B3 K3 D3],.pointer (some ⟨w1.heap.size,3,none⟩),.agg #[.slice B4 K4 D4],.agg #[.slice yA2 yN2 yC2],.pointer (some ⟨w1.heap.size,5,none⟩),.bool false,undef,undef,undef,undef,v0,v1,v2,v3,v4,v5,v6,v7,v8,v9,v10,v11,v12,undef,undef,undef,undef,undef,undef,undef,undef,undef,undef],defers:=[] }∧TogF3R w p s a1 a2 a3 a4 n1 n2 n3 n4 c1 c2 c3 c4 m1 d1 m2 d2 B1 B2 B3 B4 B5 K1 K2 K3 K4 K5 D1 D2 D3 D4 D5 V1 V2 V3 V4 V5 w1 yA2 yN2 yC2 yM2 yE2 w2 S9 b0 b1 b2 b3 b4 b5 b6 b7 b8 b9 b10 b11 b12 b13 v0 v1 v2 v3 v4 v5 v6 v7 v8 v9 v10 v11 v12 A8 N8 C8 M8 E8 A11 N11 C11 M11 E11 A12 N12 C12 M12 E12 bs9 os9 w'
structure TogT4S where
 (b0 b1 b2 b3 b4 b5 b6 b7 b8 b9 b10 b11 b12 b13:Bool)
 (v0 v1 v2 v3 v4 v5 v6 v7 v8 v9 v10 v11 v12:Value)
 (A8:Option Addr)
 (N8 C8:Nat)
 (M8:Nat)
 (E8:Int)
 (A11:Option Addr)
 (N11 C11:Nat)
 (M11:Nat)
 (E11:Int)
 (A12:Option Addr)
 (N12 C12:Nat)
 (M12:Nat)
 (E12:Int)
 bs9:List En
 os9:Os
structure TogT4R (w:World) (p:Nat) (s:Bool) (a1 a2 a3 a4:Option Addr) (n1 n2 n3 n4 c1 c2 c3 c4 m1 d1 m2 d2:Nat) (B1 B2 B3 B4 B5:Option Addr) (K1 K2 K3 K4 K5 D1 D2 D3 D4 D5 V1 V2 V3 V4 V5:Nat) (w1:World) (yA2:Option Addr) (yN2 yC2:Nat) (w2:World) (x3_A2:Option Addr) (x3_N2:Nat) (x3_C2:Nat) (x3_A3:Option Addr) (x3_N3:Nat) (x3_C3:Nat) (x3_M3:Nat) (x3_E3:Int) (S9:Nat) (b0 b1 b2 b3 b4 b5 b6 b7 b8 b9 b10 b11 b12 b13:Bool) (v0 v1 v2 v3 v4 v5 v6 v7 v8 v9 v10 v11 v12:Value) (A8:Option Addr) (N8 C8:Nat) (M8:Nat) (E8:Int) (A11:Option Addr) (N11 C11:Nat) (M11:Nat) (E11:Int) (A12:Option Addr) (N12 C12:Nat) (M12:Nat) (E12:Int) (bs9:List En) (os9:Os) (w':World):Prop where
 hc:Rc w S9 [⟨w1.heap.size,#[.slice B1 K1 D1,.slice B2 K2 D2,.slice B3 K3 D3,.slice B4 K4 D4,.slice B5 K5 D5,.bool true],111⟩,⟨w.heap.size+1,#[.bool false,.slice none 0 0,.slice none 0 0],29⟩,⟨w.heap.size,#[.bool s,.slice a1 n1 c1,.slice a2 n2 c2,.bool s,.slice a3 n3 c3,.slice a4 n4 c4],52⟩] [(a4,n4,d2),(a3,n3,m2),(a2,n2,d1),(a1,n1,m1)] [(x3_A3,x3_N3,x3_C3,x3_M3),(B5,K5,D5,V5),(B4,K4,D4,V4),(B3,K3,D3,V3),(B2,K2,D2,V2),(B1,K1,D1,V1)] (some ((p),(cond b12 E12 (cond b11 E11 (cond b8 E8 x3_E3))))) bs9 os9 w'
 f0:b0 = true→v0 = .pointer (some ⟨p,0,none⟩)
 f1:b1 = true→v1 = .agg #[.slice x3_A3 x3_N3 x3_C3]
 f2:b2 = true→v2 = .pointer (some ⟨p,0,none⟩)
 f3:b3 = true→v3 = .pointer (some ⟨p,0,none⟩)
 f4:b4 = true→v4 = .pointer (some ⟨w1.heap.size,0,none⟩)
 f5:b5 = true→v5 = .agg #[.slice B1 K1 D1]
 f6:b6 = true→v6 = .pointer (some ⟨w1.heap.size,1,none⟩)
 f7:b7 = true→v7 = .agg #[.slice B2 K2 D2]
 f8:b8 = true→v8 = .agg #[.slice A8 N8 C8]∧(A8,N8,C8,M8)∈os9∧Wz x3_E3 E8 M8 (V1+V2) (Over (V1+V2))
 f9:b9 = true→v9 = .pointer (some ⟨w1.heap.size,4,none⟩)
 f10:b10 = true→v10 = .agg #[.slice B5 K5 D5]
 f11:b11 = true→v11 = .agg #[.slice A11 N11 C11]∧(A11,N11,C11,M11)∈os9∧Wz E8 E11 M11 (M8 * V5) (Over (M8 * V5))
 f12:b12 = true→v12 = .agg #[.slice A12 N12 C12]∧(A12,N12,C12,M12)∈os9∧Wz E11 E12 M12 (x3_M3+M11) (Over (x3_M3+M11))
 o0_0:b13 = false→⟨w2.heap.size,#[.slice x3_A3 x3_N3 x3_C3],27⟩∈bs9
 o0_1:b13 = true→⟨w2.heap.size,#[.slice A12 N12 C12],27⟩∈bs9
 g13_1:b13 = true→b1 = true
 g11_8:b11 = true→b8 = true
 g12_11:b12 = true→b11 = true
 g12_8:b12 = true→b8 = true
 g13_12:b13 = true→b12 = true
 g13_11:b13 = true→b11 = true
 g13_8:b13 = true→b8 = true
def TogT4I (w:World) (p:Nat) (s:Bool) (a1 a2 a3 a4:Option Addr) (n1 n2 n3 n4 c1 c2 c3 c4 m1 d1 m2 d2:Nat) (B1 B2 B3 B4 B5:Option Addr) (K1 K2 K3 K4 K5 D1 D2 D3 D4 D5 V1 V2 V3 V4 V5:Nat) (w1:World) (yA2:Option Addr) (yN2 yC2:Nat) (w2:World) (x3_A2:Option Addr) (x3_N2:Nat) (x3_C2:Nat) (x3_A3:Option Addr) (x3_N3:Nat) (x3_C3:Nat) (x3_M3:Nat) (x3_E3:Int) (S9:Nat) (l:Array Bool) (act:Act) (w':World):TogT4S→Prop
 | ⟨b0,b1,b2,b3,b4,b5,b6,b7,b8,b9,b10,b11,b12,b13,v0,v1,v2,v3,v4,v5,v6,v7,v8,v9,v10,v11,v12,A8,N8,C8,M8,E8,A11,N11,C11,M11,E11,A12,N12,C12,M12,E12,bs9,os9⟩=>l = #[b0,b1,b2,b3,b4,b5,b6,b7,b8,b9,b10,b11,b12,b13]∧act = { tmps:=#[.pointer (some ⟨p,0,none⟩),.agg #[.bool s,.slice a1 n1 c1,.slice a2 n2 c2,.bool s,.slice a3 n3 c3,.slice a4 n4 c4],undef,.pointer (some ⟨w.heap.size,0,none⟩),.pointer (some ⟨w.heap.size+1,0,none⟩),.int .i64 0,.pointer (some ⟨w1.heap.size,0,none⟩),.pointer (some ⟨w2.heap.size,0,none⟩),.pointer (some ⟨p,0,none⟩),.agg #[.bool s,.slice a1 n1 c1,.slice a2 n2 c2,.bool s,.slice a3 n3 c3,.slice a4 n4 c4],.agg #[.slice B1 K1 D1,.slice B2 K2 D2,.slice B3 K3 D3,.slice B4 K4 D4,.slice B5 K5 D5,.bool true],.pointer (some ⟨p,0,none⟩),.pointer (some ⟨w1.heap.size,2,none⟩),.agg #[.slice B3 K3 D3],.pointer (some ⟨w1.heap.size,3,none⟩),.agg #[.slice B4 K4 D4],.agg #[.slice yA2 yN2 yC2],.pointer (some ⟨w1.heap.size,5,none⟩),.bool true,.pointer (some ⟨p,0,none⟩),.agg #[.slice yA2 yN2 yC2],.agg #[.slice x3_A2 x3_N2 x3_C2],.agg #[.slice x3_A3 x3_N3 x3_C3],v0,v1,v2,v3,v4,v5,v6,v7,v8,v9,v10,v11,v12,undef,undef,undef,undef,undef,undef,undef,undef,undef,undef],defers:=[] }∧TogT4R w p s a1 a2 a3 a4 n1 n2 n3 n4 c1 c2 c3 c4 m1 d1 m2 d2 B1 B2 B3 B4 B5 K1 K2 K3 K4 K5 D1 D2 D3 D4 D5 V1 V2 V3 V4 V5 w1 yA2 yN2 yC2 w2 x3_A2 x3_N2 x3_C2 x3_A3 x3_N3 x3_C3 x3_M3 x3_E3 S9 b0 b1 b2 b3 b4 b5 b6 b7 b8 b9 b10 b11 b12 b13 v0 v1 v2 v3 v4 v5 v6 v7 v8 v9 v10 v11 v12 A8 N8 C8 M8 E8 A11 N11 C11 M11 E11 A12 N12 C12 M12 E12 bs9 os9 w'
structure TogT3S where
 (b0 b1 b2 b3 b4:Bool)
 (v0 v1 v2 v3:Value)
 (A2:Option Addr)
 (N2 C2:Nat)
 (A3:Option Addr)
 (N3 C3:Nat)
 (M3:Nat)
 (E3:Int)
 bs9:List En
 os9:Os
structure TogT3R (w:World) (p:Nat) (s:Bool) (a1 a2 a3 a4:Option Addr) (n1 n2 n3 n4 c1 c2 c3 c4 m1 d1 m2 d2:Nat) (B1 B2 B3 B4 B5:Option Addr) (K1 K2 K3 K4 K5 D1 D2 D3 D4 D5 V1 V2 V3 V4 V5:Nat) (w1:World) (yA2:Option Addr) (yN2 yC2 yM2:Nat) (yE2:Int) (w2:World) (S9:Nat) (b0 b1 b2 b3 b4:Bool) (v0 v1 v2 v3:Value) (A2:Option Addr) (N2 C2:Nat) (A3:Option Addr) (N3 C3:Nat) (M3:Nat) (E3:Int) (bs9:List En) (os9:Os) (w':World):Prop where
 hc:Rc w S9 [⟨w1.heap.size,#[.slice B1 K1 D1,.slice B2 K2 D2,.slice B3 K3 D3,.slice B4 K4 D4,.slice B5 K5 D5,.bool true],111⟩,⟨w.heap.size+1,#[.bool false,.slice none 0 0,.slice none 0 0],29⟩,⟨w.heap.size,#[.bool s,.slice a1 n1 c1,.slice a2 n2 c2,.bool s,.slice a3 n3 c3,.slice a4 n4 c4],52⟩] [(a4,n4,d2),(a3,n3,m2),(a2,n2,d1),(a1,n1,m1)] [(yA2,yN2,yC2,yM2),(B5,K5,D5,V5),(B4,K4,D4,V4),(B3,K3,D3,V3),(B2,K2,D2,V2),(B1,K1,D1,V1)] (some ((p),(cond b3 E3 yE2))) bs9 os9 w'
 f0:b0 = true→v0 = .pointer (some ⟨p,0,none⟩)
 f1:b1 = true→v1 = .agg #[.slice yA2 yN2 yC2]
 f2:b2 = true→v2 = .agg #[.slice A2 N2 C2]∧(A2,N2,C2,1)∈os9
 f3:b3 = true→v3 = .agg #[.slice A3 N3 C3]∧(A3,N3,C3,M3)∈os9∧Wz yE2 E3 M3 (yM2+1) (Over (yM2+1))
 o0_0:b4 = false→⟨w2.heap.size,#[.slice yA2 yN2 yC2],27⟩∈bs9
 o0_1:b4 = true→⟨w2.heap.size,#[.slice A3 N3 C3],27⟩∈bs9
 g4_1:b4 = true→b1 = true
 g3_2:b3 = true→b2 = true
 g4_3:b4 = true→b3 = true
 g4_2:b4 = true→b2 = true
def TogT3I (w:World) (p:Nat) (s:Bool) (a1 a2 a3 a4:Option Addr) (n1 n2 n3 n4 c1 c2 c3 c4 m1 d1 m2 d2:Nat) (B1 B2 B3 B4 B5:Option Addr) (K1 K2 K3 K4 K5 D1 D2 D3 D4 D5 V1 V2 V3 V4 V5:Nat) (w1:World) (yA2:Option Addr) (yN2 yC2 yM2:Nat) (yE2:Int) (w2:World) (S9:Nat) (l:Array Bool) (act:Act) (w':World):TogT3S→Prop
 | ⟨b0,b1,b2,b3,b4,v0,v1,v2,v3,A2,N2,C2,A3,N3,C3,M3,E3,bs9,os9⟩=>l = #[b0,b1,b2,b3,b4]∧act = { tmps:=#[.pointer (some ⟨p,0,none⟩),.agg #[.bool s,.slice a1 n1 c1,.slice a2 n2 c2,.bool s,.slice a3 n3 c3,.slice a4 n4 c4],undef,.pointer (some ⟨w.heap.size,0,none⟩),.pointer (some ⟨w.heap.size+1,0,none⟩),.int .i64 0,.pointer (some ⟨w1.heap.size,0,none⟩),.pointer (some ⟨w2.heap.size,0,none⟩),.pointer (some ⟨p,0,none⟩),.agg #[.bool s,.slice a1 n1 c1,.slice a2 n2 c2,.bool s,.slice a3 n3 c3,.slice a4 n4 c4],.agg #[.slice B1 K1 D1,.slice B2 K2 D2,.slice B3 K3 D3,.slice B4 K4 D4,.slice B5 K5 D5,.bool true],.pointer (some ⟨p,0,none⟩),.pointer (some ⟨w1.heap.size,2,none⟩),.agg #[.slice B3 K3 D3],.pointer (some ⟨w1.heap.size,3,none⟩),.agg #[.slice B4 K4 D4],.agg #[.slice yA2 yN2 yC2],.pointer (some ⟨w1.heap.size,5,none⟩),.bool true,v0,v1,v2,v3,undef,undef,undef,undef,undef,undef,undef,undef,undef,undef,undef,undef,undef,undef,undef,undef,undef,undef,undef,undef,undef,undef,undef],defers:=[] }∧TogT3R w p s a1 a2 a3 a4 n1 n2 n3 n4 c1 c2 c3 c4 m1 d1 m2 d2 B1 B2 B3 B4 B5 K1 K2 K3 K4 K5 D1 D2 D3 D4 D5 V1 V2 V3 V4 V5 w1 yA2 yN2 yC2 yM2 yE2 w2 S9 b0 b1 b2 b3 b4 v0 v1 v2 v3 A2 N2 C2 A3 N3 C3 M3 E3 bs9 os9 w'
theorem together_any (p:Nat) (s:Bool) (a1 a2 a3 a4:Option Addr) (n1 n2 n3 n4 c1 c2 c3 c4 m1 d1 m2 d2:Nat) (w:World) (hk:Wk w p 0) (h1:Num w a1 n1 m1) (h2:Num w a2 n2 d1) (h3:Num w a3 n3 m2) (h4:Num w a4 n4 d2) (hd1:0 < d1) (hd2:0 < d2) (hc1:Nat.gcd m1 d1 = 1) (hc2:Nat.gcd m2 d2 = 1) :
  Calls Tryz.prog 50 #[.pointer (some ⟨p,0,none⟩),.agg #[.bool s,.slice a1 n1 c1,.slice a2 n2 c2,.bool s,.slice a3 n3 c3,.slice a4 n4 c4]] w (fun en w'=>RAns w' w.heap.size en s (Rm.snum m1 d1 m2 d2) (Rm.sden true m1 d1 m2 d2)∧But p w w'):=by
 have hpl:=hk.lt
 have hS:=Rs.begin_work hk
 replace hS:=hS.num h1
 replace hS:=hS.num h2
 replace hS:=hS.num h3
 replace hS:=hS.num h4
 replace hS:=hS.alloc #[.bool s,.slice a1 n1 c1,.slice a2 n2 c2,.bool s,.slice a3 n3 c3,.slice a4 n4 c4] 52
 try simp only [World.size_alloc] at hS
 replace hS:=hS.alloc #[.bool false,.slice none 0 0,.slice none 0 0] 29
 try simp only [World.size_alloc] at hS
 go_enter Tryz.func50,Tryz.ntmps50
 go_wp2_with fail
 refine (W_splitS hS s c1 c2 c3 c4 (hS.nm (a1,n1,m1) (by simp)) (hS.nm (a2,n2,d1) (by simp)) (hS.nm (a3,n3,m2) (by simp)) (hS.nm (a4,n4,d2) (by simp)) hd1 hd2 hc1 hc2).mono ?_
 clear hS; rintro en w1 ⟨B1,K1,D1,B2,K2,D2,B3,K3,D3,B4,K4,D4,B5,K5,D5,V1,V2,V3,V4,V5,br,yE1,rfl,hS,qs,hz1⟩
 have QS:=hide qs
 clear qs
 simp only [World.size_alloc] at hz1
 replace hS:=hS.alloc #[.slice B1 K1 D1,.slice B2 K2 D2,.slice B3 K3 D3,.slice B4 K4 D4,.slice B5 K5 D5,.bool br] 111
 try simp only [World.size_alloc] at hS
 cases br
 ·have k0_0:=hS.cellAt (x:=⟨w1.heap.size,#[.slice B1 K1 D1,.slice B2 K2 D2,.slice B3 K3 D3,.slice B4 K4 D4,.slice B5 K5 D5,.bool false],111⟩) (by simp) 0 (.slice B1 K1 D1) rfl
  have k0_1:=hS.cellAt (x:=⟨w1.heap.size,#[.slice B1 K1 D1,.slice B2 K2 D2,.slice B3 K3 D3,.slice B4 K4 D4,.slice B5 K5 D5,.bool false],111⟩) (by simp) 1 (.slice B2 K2 D2) rfl
  have k0_2:=hS.cellAt (x:=⟨w1.heap.size,#[.slice B1 K1 D1,.slice B2 K2 D2,.slice B3 K3 D3,.slice B4 K4 D4,.slice B5 K5 D5,.bool false],111⟩) (by simp) 2 (.slice B3 K3 D3) rfl
  have k0_3:=hS.cellAt (x:=⟨w1.heap.size,#[.slice B1 K1 D1,.slice B2 K2 D2,.slice B3 K3 D3,.slice B4 K4 D4,.slice B5 K5 D5,.bool false],111⟩) (by simp) 3 (.slice B4 K4 D4) rfl
  have k0_4:=hS.cellAt (x:=⟨w1.heap.size,#[.slice B1 K1 D1,.slice B2 K2 D2,.slice B3 K3 D3,.slice B4 K4 D4,.slice B5 K5 D5,.bool false],111⟩) (by simp) 4 (.slice B5 K5 D5) rfl
  have k0_5:=hS.cellAt (x:=⟨w1.heap.size,#[.slice B1 K1 D1,.slice B2 K2 D2,.slice B3 K3 D3,.slice B4 K4 D4,.slice B5 K5 D5,.bool false],111⟩) (by simp) 5 (.bool false) rfl
  simp only [] at k0_0 k0_1 k0_2 k0_3 k0_4 k0_5
  go_wp2_with fail
  clear k0_0 k0_1 k0_2 k0_3 k0_4 k0_5
  refine (W_add hS D3 D4 (hS.ow (B3,K3,D3,V3) (by simp)).num (hS.ow (B4,K4,D4,V4) (by simp)).num).mono ?_
  clear hS; rintro en w2 ⟨yA2,yN2,yC2,yM2,yE2,rfl,hS,q2,hz2⟩
  have Q2:=hide q2
  clear q2
  simp only [World.size_alloc] at hz2
  replace hS:=hS.alloc #[.slice yA2 yN2 yC2] 27
  try simp only [World.size_alloc] at hS
  obtain ⟨⟨k0_0,k0_1,k0_2,k0_3,k0_4,k0_5,-⟩,-⟩:=hS.cz ⟨w1.heap.size,#[.slice B1 K1 D1,.slice B2 K2 D2,.slice B3 K3 D3,.slice B4 K4 D4,.slice B5 K5 D5,.bool false],111⟩ (by simp)
  simp only [] at k0_0 k0_1 k0_2 k0_3 k0_4 k0_5
  go_wp2_with fail
  clear k0_0 k0_1 k0_2 k0_3 k0_4 k0_5
  refine wp_region_any (by kernel_rfl) ?_
  change wpAny _ _ _ _ _ _ _ (World.drew _)
  have hS9:=hS.drew
  have hsW9:(World.drew (w2.alloc (.cells #[.slice yA2 yN2 yC2] 27))).heap.size = w2.heap.size+1:=by first|rfl|simp
  generalize World.drew (w2.alloc (.cells #[.slice yA2 yN2 yC2] 27)) = Wd at hS9 hsW9 ⊢
  obtain ⟨S9,hS9z⟩:∃ x,x = Wd.heap.size:=⟨_,rfl⟩
  have hC9:=Rc.start (bs:=[⟨w1.heap.size,#[.slice B1 K1 D1,.slice B2 K2 D2,.slice B3 K3 D3,.slice B4 K4 D4,.slice B5 K5 D5,.bool false],111⟩,⟨w.heap.size+1,#[.bool false,.slice none 0 0,.slice none 0 0],29⟩,⟨w.heap.size,#[.bool s,.slice a1 n1 c1,.slice a2 n2 c2,.bool s,.slice a3 n3 c3,.slice a4 n4 c4],52⟩]) hS9 (by simp)
  rw [← hS9z] at hC9
  have hP9_0:=hS9.bx ⟨w2.heap.size,#[.slice yA2 yN2 yC2],27⟩ (by simp)
  have hP9_0:=block_lt hP9_0.1
  rw [← hS9z] at hP9_0
  simp only [] at hP9_0
  refine wpAny_inv (fun l act w'=>∃ σ,TogF3I w p s a1 a2 a3 a4 n1 n2 n3 n4 c1 c2 c3 c4 m1 d1 m2 d2 B1 B2 B3 B4 B5 K1 K2 K3 K4 K5 D1 D2 D3 D4 D5 V1 V2 V3 V4 V5 w1 yA2 yN2 yC2 yM2 yE2 w2 S9 l act w' σ) ?_ ?_ _ _ _ _ ?_ ?_
  ·intro l act w' i9 hI9 hi9 hl9
   have hin9:i9 < 14:=by
    by_cases h:i9 < 14
    ·exact h
    ·obtain ⟨⟨⟩,rfl,_⟩:=hI9
     rw [Array.getElem?_eq_none (by simp; omega)] at hl9; cases hl9
   have hcase:i9 = 0∨i9 = 1∨i9 = 2∨i9 = 3∨i9 = 4∨i9 = 5∨i9 = 6∨i9 = 7∨i9 = 8∨i9 = 9∨i9 = 10∨i9 = 11∨i9 = 12∨i9 = 13:=by omega
   clear hin9
   obtain ⟨⟨b0,b1,b2,b3,b4,b5,b6,b7,b8,b9,b10,b11,b12,b13,v0,v1,v2,v3,v4,v5,v6,v7,v8,v9,v10,v11,v12,A8,N8,C8,M8,E8,A11,N11,C11,M11,E11,A12,N12,C12,M12,E12,bs9,os9⟩,rfl,rfl,hR⟩:=hI9
   rcases hcase with rfl|rfl|rfl|rfl|rfl|rfl|rfl|rfl|rfl|rfl|rfl|rfl|rfl|rfl
   ·obtain rfl:b0 = false:=by simpa using hl9
    have hc:=hR.hc
    refine wpOp_step rfl fun K hK=>?_
    go_simp
    exact hK _ _ ⟨⟨_,_,_,_,_,_,_,_,_,_,_,_,_,_,_,_,_,_,_,_,_,_,_,_,_,_,_,A8,N8,C8,M8,E8,A11,N11,C11,M11,E11,A12,N12,C12,M12,E12,_,_⟩,rfl,rfl,{ hR with hc:=hc,f0:=(fun _=>rfl) }⟩
   ·obtain rfl:b1 = false:=by simpa using hl9
    have hc:=hR.hc
    obtain rfl:b13 = false:=by cases h:b13; rfl; exact Bool.noConfusion (hR.g13_1 h)
    have c9_0:=hc.st.cellAt (hR.o0_0 rfl) 0 (.slice yA2 yN2 yC2) rfl
    simp only [] at c9_0
    refine wpOp_step rfl fun K hK=>?_
    go_simp
    exact hK _ _ ⟨⟨_,_,_,_,_,_,_,_,_,_,_,_,_,_,_,_,_,_,_,_,_,_,_,_,_,_,_,A8,N8,C8,M8,E8,A11,N11,C11,M11,E11,A12,N12,C12,M12,E12,_,_⟩,rfl,rfl,{ hR with hc:=hc,f1:=(fun _=>rfl),g13_1:=(fun _=>rfl) }⟩
   ·obtain rfl:b2 = false:=by simpa using hl9
    have hc:=hR.hc
    refine wpOp_step rfl fun K hK=>?_
    go_simp
    exact hK _ _ ⟨⟨_,_,_,_,_,_,_,_,_,_,_,_,_,_,_,_,_,_,_,_,_,_,_,_,_,_,_,A8,N8,C8,M8,E8,A11,N11,C11,M11,E11,A12,N12,C12,M12,E12,_,_⟩,rfl,rfl,{ hR with hc:=hc,f2:=(fun _=>rfl) }⟩
   ·obtain rfl:b3 = false:=by simpa using hl9
    have hc:=hR.hc
    refine wpOp_step rfl fun K hK=>?_
    go_simp
    exact hK _ _ ⟨⟨_,_,_,_,_,_,_,_,_,_,_,_,_,_,_,_,_,_,_,_,_,_,_,_,_,_,_,A8,N8,C8,M8,E8,A11,N11,C11,M11,E11,A12,N12,C12,M12,E12,_,_⟩,rfl,rfl,{ hR with hc:=hc,f3:=(fun _=>rfl) }⟩
   ·obtain rfl:b4 = false:=by simpa using hl9
    have hc:=hR.hc
    refine wpOp_step rfl fun K hK=>?_
    go_simp
    exact hK _ _ ⟨⟨_,_,_,_,_,_,_,_,_,_,_,_,_,_,_,_,_,_,_,_,_,_,_,_,_,_,_,A8,N8,C8,M8,E8,A11,N11,C11,M11,E11,A12,N12,C12,M12,E12,_,_⟩,rfl,rfl,{ hR with hc:=hc,f4:=(fun _=>rfl) }⟩
   ·obtain rfl:b5 = false:=by simpa using hl9
    obtain ⟨o9,ho9,hd9⟩:=(mem_ready.1 hi9).2
    cases ho9
    have e4:b4 = true:=hd9 ⟨4,.data⟩ (by simp) rfl
    subst e4
    have h9:=hR.f4 rfl
    subst h9
    have hc:=hR.hc
    have c9_0:=hc.st.cellAt (hc.old ⟨w1.heap.size,#[.slice B1 K1 D1,.slice B2 K2 D2,.slice B3 K3 D3,.slice B4 K4 D4,.slice B5 K5 D5,.bool false],111⟩ (by simp)).1 0 (.slice B1 K1 D1) rfl
    simp only [] at c9_0
    refine wpOp_step rfl fun K hK=>?_
    go_simp
    exact hK _ _ ⟨⟨_,_,_,_,_,_,_,_,_,_,_,_,_,_,_,_,_,_,_,_,_,_,_,_,_,_,_,A8,N8,C8,M8,E8,A11,N11,C11,M11,E11,A12,N12,C12,M12,E12,_,_⟩,rfl,rfl,{ hR with hc:=hc,f5:=(fun _=>rfl) }⟩
   ·obtain rfl:b6 = false:=by simpa using hl9
    have hc:=hR.hc
    refine wpOp_step rfl fun K hK=>?_
    go_simp
    exact hK _ _ ⟨⟨_,_,_,_,_,_,_,_,_,_,_,_,_,_,_,_,_,_,_,_,_,_,_,_,_,_,_,A8,N8,C8,M8,E8,A11,N11,C11,M11,E11,A12,N12,C12,M12,E12,_,_⟩,rfl,rfl,{ hR with hc:=hc,f6:=(fun _=>rfl) }⟩
   ·obtain rfl:b7 = false:=by simpa using hl9
    obtain ⟨o9,ho9,hd9⟩:=(mem_ready.1 hi9).2
    cases ho9
    have e6:b6 = true:=hd9 ⟨6,.data⟩ (by simp) rfl
    subst e6
    have h9:=hR.f6 rfl
    subst h9
    have hc:=hR.hc
    have c9_0:=hc.st.cellAt (hc.old ⟨w1.heap.size,#[.slice B1 K1 D1,.slice B2 K2 D2,.slice B3 K3 D3,.slice B4 K4 D4,.slice B5 K5 D5,.bool false],111⟩ (by simp)).1 1 (.slice B2 K2 D2) rfl
    simp only [] at c9_0
    refine wpOp_step rfl fun K hK=>?_
    go_simp
    exact hK _ _ ⟨⟨_,_,_,_,_,_,_,_,_,_,_,_,_,_,_,_,_,_,_,_,_,_,_,_,_,_,_,A8,N8,C8,M8,E8,A11,N11,C11,M11,E11,A12,N12,C12,M12,E12,_,_⟩,rfl,rfl,{ hR with hc:=hc,f7:=(fun _=>rfl) }⟩
   ·obtain rfl:b8 = false:=by simpa using hl9
    obtain ⟨o9,ho9,hd9⟩:=(mem_ready.1 hi9).2
    cases ho9
    have e3:b3 = true:=hd9 ⟨3,.data⟩ (by simp) rfl
    have e5:b5 = true:=hd9 ⟨5,.data⟩ (by simp) rfl
    have e7:b7 = true:=hd9 ⟨7,.data⟩ (by simp) rfl
    subst e3 e5 e7
    have h9:=hR.f3 rfl
    subst h9
    have h9:=hR.f5 rfl
    subst h9
    have h9:=hR.f7 rfl
    subst h9
    have hc:=hR.hc
    obtain rfl:b11 = false:=by cases h:b11; rfl; exact Bool.noConfusion (hR.g11_8 h)
    obtain rfl:b12 = false:=by cases h:b12; rfl; exact Bool.noConfusion (hR.g12_11 h)
    simp only [cond_false] at hc
    have HR:=hide hR
    clear hR
    refine wpOp_step rfl fun K hK=>?_
    go_simp
    go_wp2_with fail
    refine (W_add hc.st D1 D2 (hc.st.ow (B1,K1,D1,V1) (hc.oso _ (by simp))).num (hc.st.ow (B2,K2,D2,V2) (hc.oso _ (by simp))).num).mono ?_
    rintro en w9 ⟨a9,n9,c9,m9,e9,rfl,hs9,hz,hz9⟩
    have hR:=unhide HR
    exact hK _ _ ⟨⟨_,_,_,_,_,_,_,_,_,_,_,_,_,_,_,_,_,_,_,_,_,_,_,_,_,_,_,_,_,_,_,_,A11,N11,C11,M11,E11,A12,N12,C12,M12,E12,_,_⟩,rfl,rfl,{ hR with hc:=(hc.call hs9 hz9 (fun y hy=>List.mem_cons_of_mem _ hy)),f8:=(fun _=>⟨rfl,List.mem_cons_self ..,hz⟩),f11:=(fun h=>Bool.noConfusion (hR.g11_8 h)),f12:=(fun h=>Bool.noConfusion (hR.g12_8 h)),o0_1:=(fun h=>Bool.noConfusion (hR.g13_8 h)),g11_8:=(fun _=>rfl),g12_8:=(fun _=>rfl),g13_8:=(fun _=>rfl) }⟩
   ·obtain rfl:b9 = false:=by simpa using hl9
    have hc:=hR.hc
    refine wpOp_step rfl fun K hK=>?_
    go_simp
    exact hK _ _ ⟨⟨_,_,_,_,_,_,_,_,_,_,_,_,_,_,_,_,_,_,_,_,_,_,_,_,_,_,_,A8,N8,C8,M8,E8,A11,N11,C11,M11,E11,A12,N12,C12,M12,E12,_,_⟩,rfl,rfl,{ hR with hc:=hc,f9:=(fun _=>rfl) }⟩
   ·obtain rfl:b10 = false:=by simpa using hl9
    obtain ⟨o9,ho9,hd9⟩:=(mem_ready.1 hi9).2
    cases ho9
    have e9:b9 = true:=hd9 ⟨9,.data⟩ (by simp) rfl
    subst e9
    have h9:=hR.f9 rfl
    subst h9
    have hc:=hR.hc
    have c9_0:=hc.st.cellAt (hc.old ⟨w1.heap.size,#[.slice B1 K1 D1,.slice B2 K2 D2,.slice B3 K3 D3,.slice B4 K4 D4,.slice B5 K5 D5,.bool false],111⟩ (by simp)).1 4 (.slice B5 K5 D5) rfl
    simp only [] at c9_0
    refine wpOp_step rfl fun K hK=>?_
    go_simp
    exact hK _ _ ⟨⟨_,_,_,_,_,_,_,_,_,_,_,_,_,_,_,_,_,_,_,_,_,_,_,_,_,_,_,A8,N8,C8,M8,E8,A11,N11,C11,M11,E11,A12,N12,C12,M12,E12,_,_⟩,rfl,rfl,{ hR with hc:=hc,f10:=(fun _=>rfl) }⟩
   ·obtain rfl:b11 = false:=by simpa using hl9
    obtain ⟨o9,ho9,hd9⟩:=(mem_ready.1 hi9).2
    cases ho9
    have e2:b2 = true:=hd9 ⟨2,.data⟩ (by simp) rfl
    have e8:b8 = true:=hd9 ⟨8,.data⟩ (by simp) rfl
    have e10:b10 = true:=hd9 ⟨10,.data⟩ (by simp) rfl
    subst e2 e8 e10
    have h9:=hR.f2 rfl
    subst h9
    have q8:=hR.f8 rfl
    obtain ⟨h9,q8m,q8z⟩:=q8
    subst h9
    have h9:=hR.f10 rfl
    subst h9
    have hc:=hR.hc
    obtain rfl:b12 = false:=by cases h:b12; rfl; exact Bool.noConfusion (hR.g12_11 h)
    simp only [cond_true,cond_false] at hc
    have HR:=hide hR
    clear hR
    refine wpOp_step rfl fun K hK=>?_
    go_simp
    go_wp2_with fail
    refine (W_mul hc.st C8 D5 (hc.st.ow _ q8m).num (hc.st.ow (B5,K5,D5,V5) (hc.oso _ (by simp))).num).mono ?_
    rintro en w9 ⟨a9,n9,c9,m9,e9,rfl,hs9,hz,hz9⟩
    have hR:=unhide HR
    exact hK _ _ ⟨⟨_,_,_,_,_,_,_,_,_,_,_,_,_,_,_,_,_,_,_,_,_,_,_,_,_,_,_,A8,N8,C8,M8,E8,_,_,_,_,_,A12,N12,C12,M12,E12,_,_⟩,rfl,rfl,{ hR with hc:=(hc.call hs9 hz9 (fun y hy=>List.mem_cons_of_mem _ hy)),f8:=(fun h=>⟨(hR.f8 h).1,List.mem_cons_of_mem _ (hR.f8 h).2.1,(hR.f8 h).2.2⟩),f11:=(fun _=>⟨rfl,List.mem_cons_self ..,hz⟩),f12:=(fun h=>Bool.noConfusion (hR.g12_11 h)),o0_1:=(fun h=>Bool.noConfusion (hR.g13_11 h)),g11_8:=(fun _=>rfl),g12_11:=(fun _=>rfl),g13_11:=(fun _=>rfl) }⟩
   ·obtain rfl:b12 = false:=by simpa using hl9
    obtain ⟨o9,ho9,hd9⟩:=(mem_ready.1 hi9).2
    cases ho9
    have e0:b0 = true:=hd9 ⟨0,.data⟩ (by simp) rfl
    have e1:b1 = true:=hd9 ⟨1,.data⟩ (by simp) rfl
    have e11:b11 = true:=hd9 ⟨11,.data⟩ (by simp) rfl
    subst e0 e1 e11
    have h9:=hR.f0 rfl
    subst h9
    have h9:=hR.f1 rfl
    subst h9
    have q11:=hR.f11 rfl
    obtain ⟨h9,q11m,q11z⟩:=q11
    subst h9
    have hc:=hR.hc
    obtain rfl:b8 = true:=hR.g11_8 rfl
    simp only [cond_true,cond_false] at hc
    have HR:=hide hR
    clear hR
    refine wpOp_step rfl fun K hK=>?_
    go_simp
    go_wp2_with fail
    refine (W_add hc.st yC2 C11 (hc.st.ow (yA2,yN2,yC2,yM2) (hc.oso _ (by simp))).num (hc.st.ow _ q11m).num).mono ?_
    rintro en w9 ⟨a9,n9,c9,m9,e9,rfl,hs9,hz,hz9⟩
    have hR:=unhide HR
    exact hK _ _ ⟨⟨_,_,_,_,_,_,_,_,_,_,_,_,_,_,_,_,_,_,_,_,_,_,_,_,_,_,_,A8,N8,C8,M8,E8,A11,N11,C11,M11,E11,_,_,_,_,_,_,_⟩,rfl,rfl,{ hR with hc:=(hc.call hs9 hz9 (fun y hy=>List.mem_cons_of_mem _ hy)),f8:=(fun h=>⟨(hR.f8 h).1,List.mem_cons_of_mem _ (hR.f8 h).2.1,(hR.f8 h).2.2⟩),f11:=(fun h=>⟨(hR.f11 h).1,List.mem_cons_of_mem _ (hR.f11 h).2.1,(hR.f11 h).2.2⟩),f12:=(fun _=>⟨rfl,List.mem_cons_self ..,hz⟩),o0_1:=(fun h=>Bool.noConfusion (hR.g13_12 h)),g12_11:=(fun _=>rfl),g12_8:=(fun _=>hR.g11_8 rfl),g13_12:=(fun _=>rfl) }⟩
   ·obtain rfl:b13 = false:=by simpa using hl9
    obtain ⟨o9,ho9,hd9⟩:=(mem_ready.1 hi9).2
    cases ho9
    have e12:b12 = true:=hd9 ⟨12,.data⟩ (by simp) rfl
    have e1:b1 = true:=hd9 ⟨1,.phase⟩ (by simp) rfl
    subst e12 e1
    have q12:=hR.f12 rfl
    obtain ⟨h9,q12m,q12z⟩:=q12
    subst h9
    have h9:=hR.f1 rfl
    subst h9
    have hc:=hR.hc
    have hm9:=hR.o0_0 rfl
    have fz9_0:=hc.st.frozen hm9 0
    have cz9_0:=hc.st.cellAt hm9 0 (.slice yA2 yN2 yC2) rfl
    simp only [] at fz9_0 cz9_0
    have hn9:∀ x,x∈([⟨w1.heap.size,#[.slice B1 K1 D1,.slice B2 K2 D2,.slice B3 K3 D3,.slice B4 K4 D4,.slice B5 K5 D5,.bool false],111⟩,⟨w.heap.size+1,#[.bool false,.slice none 0 0,.slice none 0 0],29⟩,⟨w.heap.size,#[.bool s,.slice a1 n1 c1,.slice a2 n2 c2,.bool s,.slice a3 n3 c3,.slice a4 n4 c4],52⟩]:List En)→x.b≠w2.heap.size:=by intro x hx; rcases List.mem_cons.1 hx with rfl|hx; (simp only []; omega); rcases List.mem_cons.1 hx with rfl|hx; (simp only []; omega); rcases List.mem_cons.1 hx with rfl|hx; (simp only []; omega);  exact absurd hx List.not_mem_nil
    have hw9:w.heap.size≤w2.heap.size:=by omega
    refine wpOp_step rfl fun K hK=>?_
    go_simp
    exact hK _ _ ⟨⟨_,_,_,_,_,_,_,_,_,_,_,_,_,_,_,_,_,_,_,_,_,_,_,_,_,_,_,A8,N8,C8,M8,E8,A11,N11,C11,M11,E11,A12,N12,C12,M12,E12,_,_⟩,rfl,rfl,{ hR with hc:=(hc.store hm9 hw9 hn9 0 (.slice A12 N12 C12) (by simp)),o0_0:=(fun h=>Bool.noConfusion h),o0_1:=(fun _=>List.mem_cons_self ..),g13_1:=(fun _=>rfl),g13_12:=(fun _=>rfl),g13_11:=(fun _=>hR.g12_11 rfl),g13_8:=(fun _=>hR.g12_8 rfl) }⟩
  ·rintro l act Wq3 ⟨⟨b0,b1,b2,b3,b4,b5,b6,b7,b8,b9,b10,b11,b12,b13,v0,v1,v2,v3,v4,v5,v6,v7,v8,v9,v10,v11,v12,x3_A8,x3_N8,x3_C8,x3_M8,x3_E8,x3_A11,x3_N11,x3_C11,x3_M11,x3_E11,x3_A12,x3_N12,x3_C12,x3_M12,x3_E12,bs9,os9⟩,rfl,rfl,hR⟩ hr9
   obtain ⟨hc,f0,f1,f2,f3,f4,f5,f6,f7,f8,f9,f10,f11,f12,o0_0,o0_1,g13_1,g11_8,g12_11,g12_8,g13_12,g13_11,g13_8⟩:=hR
   have eall:=all_done hr9 (by kernel_rfl) rfl
   obtain rfl:b0 = true:=eall 0 (by decide)
   obtain rfl:b1 = true:=eall 1 (by decide)
   obtain rfl:b2 = true:=eall 2 (by decide)
   obtain rfl:b3 = true:=eall 3 (by decide)
   obtain rfl:b4 = true:=eall 4 (by decide)
   obtain rfl:b5 = true:=eall 5 (by decide)
   obtain rfl:b6 = true:=eall 6 (by decide)
   obtain rfl:b7 = true:=eall 7 (by decide)
   obtain rfl:b8 = true:=eall 8 (by decide)
   obtain rfl:b9 = true:=eall 9 (by decide)
   obtain rfl:b10 = true:=eall 10 (by decide)
   obtain rfl:b11 = true:=eall 11 (by decide)
   obtain rfl:b12 = true:=eall 12 (by decide)
   obtain rfl:b13 = true:=eall 13 (by decide)
   clear hr9 eall
   have h9:=f0 rfl
   subst h9
   have h9:=f1 rfl
   subst h9
   have h9:=f2 rfl
   subst h9
   have h9:=f3 rfl
   subst h9
   have h9:=f4 rfl
   subst h9
   have h9:=f5 rfl
   subst h9
   have h9:=f6 rfl
   subst h9
   have h9:=f7 rfl
   subst h9
   obtain ⟨h9,q8m,qx3_8⟩:=f8 rfl
   subst h9
   have h9:=f9 rfl
   subst h9
   have h9:=f10 rfl
   subst h9
   obtain ⟨h9,q11m,qx3_11⟩:=f11 rfl
   subst h9
   obtain ⟨h9,q12m,qx3_12⟩:=f12 rfl
   subst h9
   simp only [cond_true] at hc
   have hbs9:∀ x,x∈([⟨w2.heap.size,#[.slice x3_A12 x3_N12 x3_C12],27⟩,⟨w1.heap.size,#[.slice B1 K1 D1,.slice B2 K2 D2,.slice B3 K3 D3,.slice B4 K4 D4,.slice B5 K5 D5,.bool false],111⟩,⟨w.heap.size+1,#[.bool false,.slice none 0 0,.slice none 0 0],29⟩,⟨w.heap.size,#[.bool s,.slice a1 n1 c1,.slice a2 n2 c2,.bool s,.slice a3 n3 c3,.slice a4 n4 c4],52⟩]:List En)→x∈bs9:=by
    intro x hx
    rcases List.mem_cons.1 hx with rfl|hx
    ·exact (o0_1 rfl)
    rcases List.mem_cons.1 hx with rfl|hx
    ·exact (hc.old _ (by simp)).1
    rcases List.mem_cons.1 hx with rfl|hx
    ·exact (hc.old _ (by simp)).1
    rcases List.mem_cons.1 hx with rfl|hx
    ·exact (hc.old _ (by simp)).1
    exact absurd hx List.not_mem_nil
   have hos9:∀ x,x∈([(x3_A8,x3_N8,x3_C8,x3_M8),(x3_A11,x3_N11,x3_C11,x3_M11),(x3_A12,x3_N12,x3_C12,x3_M12),(yA2,yN2,yC2,yM2),(B5,K5,D5,V5),(B4,K4,D4,V4),(B3,K3,D3,V3),(B2,K2,D2,V2),(B1,K1,D1,V1)]:Os)→x∈os9:=by
    intro x hx
    rcases List.mem_cons.1 hx with rfl|hx
    ·exact q8m
    rcases List.mem_cons.1 hx with rfl|hx
    ·exact q11m
    rcases List.mem_cons.1 hx with rfl|hx
    ·exact q12m
    rcases List.mem_cons.1 hx with rfl|hx
    ·exact hc.oso _ (by simp)
    rcases List.mem_cons.1 hx with rfl|hx
    ·exact hc.oso _ (by simp)
    rcases List.mem_cons.1 hx with rfl|hx
    ·exact hc.oso _ (by simp)
    rcases List.mem_cons.1 hx with rfl|hx
    ·exact hc.oso _ (by simp)
    rcases List.mem_cons.1 hx with rfl|hx
    ·exact hc.oso _ (by simp)
    rcases List.mem_cons.1 hx with rfl|hx
    ·exact hc.oso _ (by simp)
    exact absurd hx List.not_mem_nil
   have hS:=hc.st.sub hbs9 (fun x hx=>hx) hos9
   have hsz9:=hc.sz
   rw [hS9z,hsW9] at hsz9
   clear hbs9 hos9 hc f0 f1 f2 f3 f4 f5 f6 f7 f8 f9 f10 f11 f12 o0_0 o0_1 g13_1 g11_8 g12_11 g12_8 g13_12 g13_11 g13_8
   clear q8m q11m q12m
   have hz3:=hsz9
   clear hsz9 hS9z hS9 hC9 hsW9
   have Qx3_8:=hide qx3_8
   clear qx3_8
   have Qx3_11:=hide qx3_11
   clear qx3_11
   have Qx3_12:=hide qx3_12
   clear qx3_12
   obtain ⟨⟨k0_0,-⟩,-⟩:=hS.cz ⟨w2.heap.size,#[.slice x3_A12 x3_N12 x3_C12],27⟩ (by simp)
   obtain ⟨⟨k1_0,k1_1,k1_2,k1_3,k1_4,k1_5,-⟩,-⟩:=hS.cz ⟨w1.heap.size,#[.slice B1 K1 D1,.slice B2 K2 D2,.slice B3 K3 D3,.slice B4 K4 D4,.slice B5 K5 D5,.bool false],111⟩ (by simp)
   obtain ⟨⟨k2_0,k2_1,k2_2,-⟩,-⟩:=hS.cz ⟨w.heap.size+1,#[.bool false,.slice none 0 0,.slice none 0 0],29⟩ (by simp)
   obtain ⟨⟨k3_0,k3_1,k3_2,k3_3,k3_4,k3_5,-⟩,-⟩:=hS.cz ⟨w.heap.size,#[.bool s,.slice a1 n1 c1,.slice a2 n2 c2,.bool s,.slice a3 n3 c3,.slice a4 n4 c4],52⟩ (by simp)
   simp only [] at k0_0 k1_0 k1_1 k1_2 k1_3 k1_4 k1_5 k2_0 k2_1 k2_2 k3_0 k3_1 k3_2 k3_3 k3_4 k3_5
   go_wp2_with fail
   have hfb:=hS.fr
   clear k0_0 k1_0 k1_1 k1_2 k1_3 k1_4 k1_5 k2_0 k2_1 k2_2 k3_0 k3_1 k3_2 k3_3 k3_4 k3_5
   refine (W_frac hS s x3_A12 B5 x3_N12 K5 x3_C12 D5).mono ?_
   clear hS; rintro en Wz ⟨⟨s7,b7,k7,l7,b8,k8,l8,r7,rfl,q7⟩,hS,hzz⟩
   have Q7:=hide q7
   clear q7
   obtain ⟨⟨k0_0,k0_1,k0_2,-⟩,z0⟩:=hS.cz ⟨w.heap.size+1,#[.bool false,.slice none 0 0,.slice none 0 0],29⟩ (by simp)
   have z0_0:=z0 0
   have z0_1:=z0 1
   have z0_2:=z0 2
   clear z0
   simp only [] at k0_0 z0_0 k0_1 z0_1 k0_2 z0_2
   go_wp2
   have hend:=tog_end hd1 hd2 hc1 hc2 (unhide QS) (unhide Q2) ⟨rfl,rfl⟩ (unhide Qx3_8) (unhide Qx3_11) (unhide Qx3_12)
   have q7:=unhide Q7
   replace hS:=hS.sub (bs':=[⟨w.heap.size+1,#[.bool false,.slice none 0 0,.slice none 0 0],29⟩]) (ms':=[]) (by intro x hx; rcases List.mem_cons.1 hx with rfl|hx; simp; exact absurd hx List.not_mem_nil) (by intro x hx; exact absurd hx List.not_mem_nil) (fun x hx=>hx)
   have u1:=hS.cellAt (x:=⟨w.heap.size+1,#[.bool false,.slice none 0 0,.slice none 0 0],29⟩) (by simp) 0 (.bool false) rfl
   have y1:=hS.frozen (x:=⟨w.heap.size+1,#[.bool false,.slice none 0 0,.slice none 0 0],29⟩) (by simp) 0
   simp only [] at u1 y1
   replace hS:=hS.put (x:=⟨w.heap.size+1,#[.bool false,.slice none 0 0,.slice none 0 0],29⟩) (by simp) (by simp only []; omega) 0 (.bool s7) (by simp) [⟨w.heap.size+1,#[.bool s7,.slice none 0 0,.slice none 0 0],29⟩] (by intro y hy; rcases List.mem_cons.1 hy with rfl|hy; exact Or.inl rfl; exact absurd hy List.not_mem_nil)
   have u2:=hS.cellAt (x:=⟨w.heap.size+1,#[.bool s7,.slice none 0 0,.slice none 0 0],29⟩) (by simp) 1 (.slice none 0 0) rfl
   have y2:=hS.frozen (x:=⟨w.heap.size+1,#[.bool s7,.slice none 0 0,.slice none 0 0],29⟩) (by simp) 1
   simp only [] at u2 y2
   replace hS:=hS.put (x:=⟨w.heap.size+1,#[.bool s7,.slice none 0 0,.slice none 0 0],29⟩) (by simp) (by simp only []; omega) 1 (.slice b7 k7 l7) (by simp) [⟨w.heap.size+1,#[.bool s7,.slice b7 k7 l7,.slice none 0 0],29⟩] (by intro y hy; rcases List.mem_cons.1 hy with rfl|hy; exact Or.inl rfl; exact absurd hy List.not_mem_nil)
   have u3:=hS.cellAt (x:=⟨w.heap.size+1,#[.bool s7,.slice b7 k7 l7,.slice none 0 0],29⟩) (by simp) 2 (.slice none 0 0) rfl
   have y3:=hS.frozen (x:=⟨w.heap.size+1,#[.bool s7,.slice b7 k7 l7,.slice none 0 0],29⟩) (by simp) 2
   simp only [] at u3 y3
   replace hS:=hS.put (x:=⟨w.heap.size+1,#[.bool s7,.slice b7 k7 l7,.slice none 0 0],29⟩) (by simp) (by simp only []; omega) 2 (.slice b8 k8 l8) (by simp) [⟨w.heap.size+1,#[.bool s7,.slice b7 k7 l7,.slice b8 k8 l8],29⟩] (by intro y hy; rcases List.mem_cons.1 hy with rfl|hy; exact Or.inl rfl; exact absurd hy List.not_mem_nil)
   have hbel:=hS.fr
   refine bodyPost_ret (v:=.tuple #[RatV s7 b7 k7 l7 b8 k8 l8,.int .i64 r7]) (by simp [results,Tryz.results50,go_sem,RatV,k0_0,k0_1,k0_2]) rfl ⟨?_,hbel⟩
   have o1:=hS.ow (x3_A12,x3_N12,x3_C12,x3_M12) (by simp)
   have o2:=hS.ow (B5,K5,D5,V5) (by simp)
   rcases q7 with ⟨h0,rfl,rfl,rfl,rfl,rfl,rfl,rfl,rfl⟩|⟨h0,rfl,rfl,rfl,rfl,rfl,rfl,rfl,rfl⟩
   ·obtain ⟨e1,e2⟩:=hend.1 h0
    have hz1:=o1.num.zero
    simp only [] at o1 o2 hz1
    rw [e1] at o1 hz1
    rw [e2] at o2
    refine Or.inl ⟨_,_,_,_,_,_,?_,o1,o2⟩
    rw [show decide (k7 = 0) = decide (_ = 0) from decide_eq_decide.2 hz1]
    all_goals rfl
   ·obtain ⟨e1,e2⟩:=hend.2 h0
    exact Or.inr ⟨by rw [e1],e2⟩
  ·simp
  ·exact ⟨⟨false,false,false,false,false,false,false,false,false,false,false,false,false,false,undef,undef,undef,undef,undef,undef,undef,undef,undef,undef,undef,undef,undef,none,0,0,0,0,none,0,0,0,0,none,0,0,0,0,_,_⟩,rfl,rfl,⟨hC9,nb,nb,nb,nb,nb,nb,nb,nb,nb,nb,nb,nb,nb,(fun _=>by simp),nb,nb,nb,nb,nb,nb,nb,nb⟩⟩
 ·have k0_0:=hS.cellAt (x:=⟨w1.heap.size,#[.slice B1 K1 D1,.slice B2 K2 D2,.slice B3 K3 D3,.slice B4 K4 D4,.slice B5 K5 D5,.bool true],111⟩) (by simp) 0 (.slice B1 K1 D1) rfl
  have k0_1:=hS.cellAt (x:=⟨w1.heap.size,#[.slice B1 K1 D1,.slice B2 K2 D2,.slice B3 K3 D3,.slice B4 K4 D4,.slice B5 K5 D5,.bool true],111⟩) (by simp) 1 (.slice B2 K2 D2) rfl
  have k0_2:=hS.cellAt (x:=⟨w1.heap.size,#[.slice B1 K1 D1,.slice B2 K2 D2,.slice B3 K3 D3,.slice B4 K4 D4,.slice B5 K5 D5,.bool true],111⟩) (by simp) 2 (.slice B3 K3 D3) rfl
  have k0_3:=hS.cellAt (x:=⟨w1.heap.size,#[.slice B1 K1 D1,.slice B2 K2 D2,.slice B3 K3 D3,.slice B4 K4 D4,.slice B5 K5 D5,.bool true],111⟩) (by simp) 3 (.slice B4 K4 D4) rfl
  have k0_4:=hS.cellAt (x:=⟨w1.heap.size,#[.slice B1 K1 D1,.slice B2 K2 D2,.slice B3 K3 D3,.slice B4 K4 D4,.slice B5 K5 D5,.bool true],111⟩) (by simp) 4 (.slice B5 K5 D5) rfl
  have k0_5:=hS.cellAt (x:=⟨w1.heap.size,#[.slice B1 K1 D1,.slice B2 K2 D2,.slice B3 K3 D3,.slice B4 K4 D4,.slice B5 K5 D5,.bool true],111⟩) (by simp) 5 (.bool true) rfl
  simp only [] at k0_0 k0_1 k0_2 k0_3 k0_4 k0_5
  go_wp2_with fail
  clear k0_0 k0_1 k0_2 k0_3 k0_4 k0_5
  refine (W_add hS D3 D4 (hS.ow (B3,K3,D3,V3) (by simp)).num (hS.ow (B4,K4,D4,V4) (by simp)).num).mono ?_
  clear hS; rintro en w2 ⟨yA2,yN2,yC2,yM2,yE2,rfl,hS,q2,hz2⟩
  have Q2:=hide q2
  clear q2
  simp only [World.size_alloc] at hz2
  replace hS:=hS.alloc #[.slice yA2 yN2 yC2] 27
  try simp only [World.size_alloc] at hS
  obtain ⟨⟨k0_0,k0_1,k0_2,k0_3,k0_4,k0_5,-⟩,-⟩:=hS.cz ⟨w1.heap.size,#[.slice B1 K1 D1,.slice B2 K2 D2,.slice B3 K3 D3,.slice B4 K4 D4,.slice B5 K5 D5,.bool true],111⟩ (by simp)
  simp only [] at k0_0 k0_1 k0_2 k0_3 k0_4 k0_5
  go_wp2_with fail
  clear k0_0 k0_1 k0_2 k0_3 k0_4 k0_5
  refine wp_region_any (by kernel_rfl) ?_
  change wpAny _ _ _ _ _ _ _ (World.drew _)
  have hS9:=hS.drew
  have hsW9:(World.drew (w2.alloc (.cells #[.slice yA2 yN2 yC2] 27))).heap.size = w2.heap.size+1:=by first|rfl|simp
  generalize World.drew (w2.alloc (.cells #[.slice yA2 yN2 yC2] 27)) = Wd at hS9 hsW9 ⊢
  obtain ⟨S9,hS9z⟩:∃ x,x = Wd.heap.size:=⟨_,rfl⟩
  have hC9:=Rc.start (bs:=[⟨w1.heap.size,#[.slice B1 K1 D1,.slice B2 K2 D2,.slice B3 K3 D3,.slice B4 K4 D4,.slice B5 K5 D5,.bool true],111⟩,⟨w.heap.size+1,#[.bool false,.slice none 0 0,.slice none 0 0],29⟩,⟨w.heap.size,#[.bool s,.slice a1 n1 c1,.slice a2 n2 c2,.bool s,.slice a3 n3 c3,.slice a4 n4 c4],52⟩]) hS9 (by simp)
  rw [← hS9z] at hC9
  have hP9_0:=hS9.bx ⟨w2.heap.size,#[.slice yA2 yN2 yC2],27⟩ (by simp)
  have hP9_0:=block_lt hP9_0.1
  rw [← hS9z] at hP9_0
  simp only [] at hP9_0
  refine wpAny_inv (fun l act w'=>∃ σ,TogT3I w p s a1 a2 a3 a4 n1 n2 n3 n4 c1 c2 c3 c4 m1 d1 m2 d2 B1 B2 B3 B4 B5 K1 K2 K3 K4 K5 D1 D2 D3 D4 D5 V1 V2 V3 V4 V5 w1 yA2 yN2 yC2 yM2 yE2 w2 S9 l act w' σ) ?_ ?_ _ _ _ _ ?_ ?_
  ·intro l act w' i9 hI9 hi9 hl9
   have hin9:i9 < 5:=by
    by_cases h:i9 < 5
    ·exact h
    ·obtain ⟨⟨⟩,rfl,_⟩:=hI9
     rw [Array.getElem?_eq_none (by simp; omega)] at hl9; cases hl9
   have hcase:i9 = 0∨i9 = 1∨i9 = 2∨i9 = 3∨i9 = 4:=by omega
   clear hin9
   obtain ⟨⟨b0,b1,b2,b3,b4,v0,v1,v2,v3,A2,N2,C2,A3,N3,C3,M3,E3,bs9,os9⟩,rfl,rfl,hR⟩:=hI9
   rcases hcase with rfl|rfl|rfl|rfl|rfl
   ·obtain rfl:b0 = false:=by simpa using hl9
    have hc:=hR.hc
    refine wpOp_step rfl fun K hK=>?_
    go_simp
    exact hK _ _ ⟨⟨_,_,_,_,_,_,_,_,_,A2,N2,C2,A3,N3,C3,M3,E3,_,_⟩,rfl,rfl,{ hR with hc:=hc,f0:=(fun _=>rfl) }⟩
   ·obtain rfl:b1 = false:=by simpa using hl9
    have hc:=hR.hc
    obtain rfl:b4 = false:=by cases h:b4; rfl; exact Bool.noConfusion (hR.g4_1 h)
    have c9_0:=hc.st.cellAt (hR.o0_0 rfl) 0 (.slice yA2 yN2 yC2) rfl
    simp only [] at c9_0
    refine wpOp_step rfl fun K hK=>?_
    go_simp
    exact hK _ _ ⟨⟨_,_,_,_,_,_,_,_,_,A2,N2,C2,A3,N3,C3,M3,E3,_,_⟩,rfl,rfl,{ hR with hc:=hc,f1:=(fun _=>rfl),g4_1:=(fun _=>rfl) }⟩
   ·obtain rfl:b2 = false:=by simpa using hl9
    have hc:=hR.hc
    have HR:=hide hR
    clear hR
    refine wpOp_step rfl fun K hK=>?_
    go_simp
    go_wp2_with fail
    refine (W_of hc.st 1 (by omega)).mono ?_
    rintro en w9 ⟨a9,n9,c9,rfl,hs9,hz9⟩
    have hR:=unhide HR
    exact hK _ _ ⟨⟨_,_,_,_,_,_,_,_,_,_,_,_,A3,N3,C3,M3,E3,_,_⟩,rfl,rfl,{ hR with hc:=(hc.call hs9 hz9 (fun y hy=>List.mem_cons_of_mem _ hy)),f2:=(fun _=>⟨rfl,List.mem_cons_self ..⟩),f3:=(fun h=>Bool.noConfusion (hR.g3_2 h)),o0_1:=(fun h=>Bool.noConfusion (hR.g4_2 h)),g3_2:=(fun _=>rfl),g4_2:=(fun _=>rfl) }⟩
   ·obtain rfl:b3 = false:=by simpa using hl9
    obtain ⟨o9,ho9,hd9⟩:=(mem_ready.1 hi9).2
    cases ho9
    have e0:b0 = true:=hd9 ⟨0,.data⟩ (by simp) rfl
    have e1:b1 = true:=hd9 ⟨1,.data⟩ (by simp) rfl
    have e2:b2 = true:=hd9 ⟨2,.data⟩ (by simp) rfl
    subst e0 e1 e2
    have h9:=hR.f0 rfl
    subst h9
    have h9:=hR.f1 rfl
    subst h9
    have q2:=hR.f2 rfl
    obtain ⟨h9,q2m⟩:=q2
    subst h9
    have hc:=hR.hc
    simp only [cond_false] at hc
    have HR:=hide hR
    clear hR
    refine wpOp_step rfl fun K hK=>?_
    go_simp
    go_wp2_with fail
    refine (W_add hc.st yC2 C2 (hc.st.ow (yA2,yN2,yC2,yM2) (hc.oso _ (by simp))).num (hc.st.ow _ q2m).num).mono ?_
    rintro en w9 ⟨a9,n9,c9,m9,e9,rfl,hs9,hz,hz9⟩
    have hR:=unhide HR
    exact hK _ _ ⟨⟨_,_,_,_,_,_,_,_,_,A2,N2,C2,_,_,_,_,_,_,_⟩,rfl,rfl,{ hR with hc:=(hc.call hs9 hz9 (fun y hy=>List.mem_cons_of_mem _ hy)),f2:=(fun h=>⟨(hR.f2 h).1,List.mem_cons_of_mem _ (hR.f2 h).2⟩),f3:=(fun _=>⟨rfl,List.mem_cons_self ..,hz⟩),o0_1:=(fun h=>Bool.noConfusion (hR.g4_3 h)),g3_2:=(fun _=>rfl),g4_3:=(fun _=>rfl) }⟩
   ·obtain rfl:b4 = false:=by simpa using hl9
    obtain ⟨o9,ho9,hd9⟩:=(mem_ready.1 hi9).2
    cases ho9
    have e3:b3 = true:=hd9 ⟨3,.data⟩ (by simp) rfl
    have e1:b1 = true:=hd9 ⟨1,.phase⟩ (by simp) rfl
    subst e3 e1
    have q3:=hR.f3 rfl
    obtain ⟨h9,q3m,q3z⟩:=q3
    subst h9
    have h9:=hR.f1 rfl
    subst h9
    have hc:=hR.hc
    have hm9:=hR.o0_0 rfl
    have fz9_0:=hc.st.frozen hm9 0
    have cz9_0:=hc.st.cellAt hm9 0 (.slice yA2 yN2 yC2) rfl
    simp only [] at fz9_0 cz9_0
    have hn9:∀ x,x∈([⟨w1.heap.size,#[.slice B1 K1 D1,.slice B2 K2 D2,.slice B3 K3 D3,.slice B4 K4 D4,.slice B5 K5 D5,.bool true],111⟩,⟨w.heap.size+1,#[.bool false,.slice none 0 0,.slice none 0 0],29⟩,⟨w.heap.size,#[.bool s,.slice a1 n1 c1,.slice a2 n2 c2,.bool s,.slice a3 n3 c3,.slice a4 n4 c4],52⟩]:List En)→x.b≠w2.heap.size:=by intro x hx; rcases List.mem_cons.1 hx with rfl|hx; (simp only []; omega); rcases List.mem_cons.1 hx with rfl|hx; (simp only []; omega); rcases List.mem_cons.1 hx with rfl|hx; (simp only []; omega);  exact absurd hx List.not_mem_nil
    have hw9:w.heap.size≤w2.heap.size:=by omega
    refine wpOp_step rfl fun K hK=>?_
    go_simp
    exact hK _ _ ⟨⟨_,_,_,_,_,_,_,_,_,A2,N2,C2,A3,N3,C3,M3,E3,_,_⟩,rfl,rfl,{ hR with hc:=(hc.store hm9 hw9 hn9 0 (.slice A3 N3 C3) (by simp)),o0_0:=(fun h=>Bool.noConfusion h),o0_1:=(fun _=>List.mem_cons_self ..),g4_1:=(fun _=>rfl),g4_3:=(fun _=>rfl),g4_2:=(fun _=>hR.g3_2 rfl) }⟩
  ·rintro l act Wq3 ⟨⟨b0,b1,b2,b3,b4,v0,v1,v2,v3,x3_A2,x3_N2,x3_C2,x3_A3,x3_N3,x3_C3,x3_M3,x3_E3,bs9,os9⟩,rfl,rfl,hR⟩ hr9
   obtain ⟨hc,f0,f1,f2,f3,o0_0,o0_1,g4_1,g3_2,g4_3,g4_2⟩:=hR
   have eall:=all_done hr9 (by kernel_rfl) rfl
   obtain rfl:b0 = true:=eall 0 (by decide)
   obtain rfl:b1 = true:=eall 1 (by decide)
   obtain rfl:b2 = true:=eall 2 (by decide)
   obtain rfl:b3 = true:=eall 3 (by decide)
   obtain rfl:b4 = true:=eall 4 (by decide)
   clear hr9 eall
   have h9:=f0 rfl
   subst h9
   have h9:=f1 rfl
   subst h9
   obtain ⟨h9,q2m⟩:=f2 rfl
   subst h9
   obtain ⟨h9,q3m,qx3_3⟩:=f3 rfl
   subst h9
   simp only [cond_true] at hc
   have hbs9:∀ x,x∈([⟨w2.heap.size,#[.slice x3_A3 x3_N3 x3_C3],27⟩,⟨w1.heap.size,#[.slice B1 K1 D1,.slice B2 K2 D2,.slice B3 K3 D3,.slice B4 K4 D4,.slice B5 K5 D5,.bool true],111⟩,⟨w.heap.size+1,#[.bool false,.slice none 0 0,.slice none 0 0],29⟩,⟨w.heap.size,#[.bool s,.slice a1 n1 c1,.slice a2 n2 c2,.bool s,.slice a3 n3 c3,.slice a4 n4 c4],52⟩]:List En)→x∈bs9:=by
    intro x hx
    rcases List.mem_cons.1 hx with rfl|hx
    ·exact (o0_1 rfl)
    rcases List.mem_cons.1 hx with rfl|hx
    ·exact (hc.old _ (by simp)).1
    rcases List.mem_cons.1 hx with rfl|hx
    ·exact (hc.old _ (by simp)).1
    rcases List.mem_cons.1 hx with rfl|hx
    ·exact (hc.old _ (by simp)).1
    exact absurd hx List.not_mem_nil
   have hos9:∀ x,x∈([(x3_A2,x3_N2,x3_C2,1),(x3_A3,x3_N3,x3_C3,x3_M3),(yA2,yN2,yC2,yM2),(B5,K5,D5,V5),(B4,K4,D4,V4),(B3,K3,D3,V3),(B2,K2,D2,V2),(B1,K1,D1,V1)]:Os)→x∈os9:=by
    intro x hx
    rcases List.mem_cons.1 hx with rfl|hx
    ·exact q2m
    rcases List.mem_cons.1 hx with rfl|hx
    ·exact q3m
    rcases List.mem_cons.1 hx with rfl|hx
    ·exact hc.oso _ (by simp)
    rcases List.mem_cons.1 hx with rfl|hx
    ·exact hc.oso _ (by simp)
    rcases List.mem_cons.1 hx with rfl|hx
    ·exact hc.oso _ (by simp)
    rcases List.mem_cons.1 hx with rfl|hx
    ·exact hc.oso _ (by simp)
    rcases List.mem_cons.1 hx with rfl|hx
    ·exact hc.oso _ (by simp)
    rcases List.mem_cons.1 hx with rfl|hx
    ·exact hc.oso _ (by simp)
    exact absurd hx List.not_mem_nil
   have hS:=hc.st.sub hbs9 (fun x hx=>hx) hos9
   have hsz9:=hc.sz
   rw [hS9z,hsW9] at hsz9
   clear hbs9 hos9 hc f0 f1 f2 f3 o0_0 o0_1 g4_1 g3_2 g4_3 g4_2
   clear q2m q3m
   have hz3:=hsz9
   clear hsz9 hS9z hS9 hC9 hsW9
   have Qx3_3:=hide qx3_3
   clear qx3_3
   go_wp2_with fail
   replace hS:=hS.sub (bs':=[⟨w2.heap.size,#[.slice x3_A3 x3_N3 x3_C3],27⟩,⟨w1.heap.size,#[.slice B1 K1 D1,.slice B2 K2 D2,.slice B3 K3 D3,.slice B4 K4 D4,.slice B5 K5 D5,.bool true],111⟩,⟨w.heap.size+1,#[.bool false,.slice none 0 0,.slice none 0 0],29⟩,⟨w.heap.size,#[.bool s,.slice a1 n1 c1,.slice a2 n2 c2,.bool s,.slice a3 n3 c3,.slice a4 n4 c4],52⟩]) (ms':=[(a4,n4,d2),(a3,n3,m2),(a2,n2,d1),(a1,n1,m1)]) (os':=[(x3_A3,x3_N3,x3_C3,x3_M3),(B5,K5,D5,V5),(B4,K4,D4,V4),(B3,K3,D3,V3),(B2,K2,D2,V2),(B1,K1,D1,V1)]) (by intro x hx; rcases List.mem_cons.1 hx with rfl|hx; (simp); rcases List.mem_cons.1 hx with rfl|hx; (simp); rcases List.mem_cons.1 hx with rfl|hx; (simp); rcases List.mem_cons.1 hx with rfl|hx; (simp); exact absurd hx List.not_mem_nil) (by intro x hx; rcases List.mem_cons.1 hx with rfl|hx; (simp); rcases List.mem_cons.1 hx with rfl|hx; (simp); rcases List.mem_cons.1 hx with rfl|hx; (simp); rcases List.mem_cons.1 hx with rfl|hx; (simp); exact absurd hx List.not_mem_nil) (by intro x hx; rcases List.mem_cons.1 hx with rfl|hx; (simp); rcases List.mem_cons.1 hx with rfl|hx; (simp); rcases List.mem_cons.1 hx with rfl|hx; (simp); rcases List.mem_cons.1 hx with rfl|hx; (simp); rcases List.mem_cons.1 hx with rfl|hx; (simp); rcases List.mem_cons.1 hx with rfl|hx; (simp); exact absurd hx List.not_mem_nil)
   refine wp_region_any (by kernel_rfl) ?_
   change wpAny _ _ _ _ _ _ _ (World.drew _)
   have hS9:=hS.drew
   have hsW9:(World.drew Wq3).heap.size = Wq3.heap.size:=by first|rfl|simp
   generalize World.drew Wq3 = Wd at hS9 hsW9 ⊢
   obtain ⟨S9,hS9z⟩:∃ x,x = Wd.heap.size:=⟨_,rfl⟩
   have hC9:=Rc.start (bs:=[⟨w1.heap.size,#[.slice B1 K1 D1,.slice B2 K2 D2,.slice B3 K3 D3,.slice B4 K4 D4,.slice B5 K5 D5,.bool true],111⟩,⟨w.heap.size+1,#[.bool false,.slice none 0 0,.slice none 0 0],29⟩,⟨w.heap.size,#[.bool s,.slice a1 n1 c1,.slice a2 n2 c2,.bool s,.slice a3 n3 c3,.slice a4 n4 c4],52⟩]) hS9 (by simp)
   rw [← hS9z] at hC9
   have hP9_0:=hS9.bx ⟨w2.heap.size,#[.slice x3_A3 x3_N3 x3_C3],27⟩ (by simp)
   have hP9_0:=block_lt hP9_0.1
   rw [← hS9z] at hP9_0
   simp only [] at hP9_0
   refine wpAny_inv (fun l act w'=>∃ σ,TogT4I w p s a1 a2 a3 a4 n1 n2 n3 n4 c1 c2 c3 c4 m1 d1 m2 d2 B1 B2 B3 B4 B5 K1 K2 K3 K4 K5 D1 D2 D3 D4 D5 V1 V2 V3 V4 V5 w1 yA2 yN2 yC2 w2 x3_A2 x3_N2 x3_C2 x3_A3 x3_N3 x3_C3 x3_M3 x3_E3 S9 l act w' σ) ?_ ?_ _ _ _ _ ?_ ?_
   ·intro l act w' i9 hI9 hi9 hl9
    have hin9:i9 < 14:=by
     by_cases h:i9 < 14
     ·exact h
     ·obtain ⟨⟨⟩,rfl,_⟩:=hI9
      rw [Array.getElem?_eq_none (by simp; omega)] at hl9; cases hl9
    have hcase:i9 = 0∨i9 = 1∨i9 = 2∨i9 = 3∨i9 = 4∨i9 = 5∨i9 = 6∨i9 = 7∨i9 = 8∨i9 = 9∨i9 = 10∨i9 = 11∨i9 = 12∨i9 = 13:=by omega
    clear hin9
    obtain ⟨⟨b0,b1,b2,b3,b4,b5,b6,b7,b8,b9,b10,b11,b12,b13,v0,v1,v2,v3,v4,v5,v6,v7,v8,v9,v10,v11,v12,A8,N8,C8,M8,E8,A11,N11,C11,M11,E11,A12,N12,C12,M12,E12,bs9,os9⟩,rfl,rfl,hR⟩:=hI9
    rcases hcase with rfl|rfl|rfl|rfl|rfl|rfl|rfl|rfl|rfl|rfl|rfl|rfl|rfl|rfl
    ·obtain rfl:b0 = false:=by simpa using hl9
     have hc:=hR.hc
     refine wpOp_step rfl fun K hK=>?_
     go_simp
     exact hK _ _ ⟨⟨_,_,_,_,_,_,_,_,_,_,_,_,_,_,_,_,_,_,_,_,_,_,_,_,_,_,_,A8,N8,C8,M8,E8,A11,N11,C11,M11,E11,A12,N12,C12,M12,E12,_,_⟩,rfl,rfl,{ hR with hc:=hc,f0:=(fun _=>rfl) }⟩
    ·obtain rfl:b1 = false:=by simpa using hl9
     have hc:=hR.hc
     obtain rfl:b13 = false:=by cases h:b13; rfl; exact Bool.noConfusion (hR.g13_1 h)
     have c9_0:=hc.st.cellAt (hR.o0_0 rfl) 0 (.slice x3_A3 x3_N3 x3_C3) rfl
     simp only [] at c9_0
     refine wpOp_step rfl fun K hK=>?_
     go_simp
     exact hK _ _ ⟨⟨_,_,_,_,_,_,_,_,_,_,_,_,_,_,_,_,_,_,_,_,_,_,_,_,_,_,_,A8,N8,C8,M8,E8,A11,N11,C11,M11,E11,A12,N12,C12,M12,E12,_,_⟩,rfl,rfl,{ hR with hc:=hc,f1:=(fun _=>rfl),g13_1:=(fun _=>rfl) }⟩
    ·obtain rfl:b2 = false:=by simpa using hl9
     have hc:=hR.hc
     refine wpOp_step rfl fun K hK=>?_
     go_simp
     exact hK _ _ ⟨⟨_,_,_,_,_,_,_,_,_,_,_,_,_,_,_,_,_,_,_,_,_,_,_,_,_,_,_,A8,N8,C8,M8,E8,A11,N11,C11,M11,E11,A12,N12,C12,M12,E12,_,_⟩,rfl,rfl,{ hR with hc:=hc,f2:=(fun _=>rfl) }⟩
    ·obtain rfl:b3 = false:=by simpa using hl9
     have hc:=hR.hc
     refine wpOp_step rfl fun K hK=>?_
     go_simp
     exact hK _ _ ⟨⟨_,_,_,_,_,_,_,_,_,_,_,_,_,_,_,_,_,_,_,_,_,_,_,_,_,_,_,A8,N8,C8,M8,E8,A11,N11,C11,M11,E11,A12,N12,C12,M12,E12,_,_⟩,rfl,rfl,{ hR with hc:=hc,f3:=(fun _=>rfl) }⟩
    ·obtain rfl:b4 = false:=by simpa using hl9
     have hc:=hR.hc
     refine wpOp_step rfl fun K hK=>?_
     go_simp
     exact hK _ _ ⟨⟨_,_,_,_,_,_,_,_,_,_,_,_,_,_,_,_,_,_,_,_,_,_,_,_,_,_,_,A8,N8,C8,M8,E8,A11,N11,C11,M11,E11,A12,N12,C12,M12,E12,_,_⟩,rfl,rfl,{ hR with hc:=hc,f4:=(fun _=>rfl) }⟩
    ·obtain rfl:b5 = false:=by simpa using hl9
     obtain ⟨o9,ho9,hd9⟩:=(mem_ready.1 hi9).2
     cases ho9
     have e4:b4 = true:=hd9 ⟨4,.data⟩ (by simp) rfl
     subst e4
     have h9:=hR.f4 rfl
     subst h9
     have hc:=hR.hc
     have c9_0:=hc.st.cellAt (hc.old ⟨w1.heap.size,#[.slice B1 K1 D1,.slice B2 K2 D2,.slice B3 K3 D3,.slice B4 K4 D4,.slice B5 K5 D5,.bool true],111⟩ (by simp)).1 0 (.slice B1 K1 D1) rfl
     simp only [] at c9_0
     refine wpOp_step rfl fun K hK=>?_
     go_simp
     exact hK _ _ ⟨⟨_,_,_,_,_,_,_,_,_,_,_,_,_,_,_,_,_,_,_,_,_,_,_,_,_,_,_,A8,N8,C8,M8,E8,A11,N11,C11,M11,E11,A12,N12,C12,M12,E12,_,_⟩,rfl,rfl,{ hR with hc:=hc,f5:=(fun _=>rfl) }⟩
    ·obtain rfl:b6 = false:=by simpa using hl9
     have hc:=hR.hc
     refine wpOp_step rfl fun K hK=>?_
     go_simp
     exact hK _ _ ⟨⟨_,_,_,_,_,_,_,_,_,_,_,_,_,_,_,_,_,_,_,_,_,_,_,_,_,_,_,A8,N8,C8,M8,E8,A11,N11,C11,M11,E11,A12,N12,C12,M12,E12,_,_⟩,rfl,rfl,{ hR with hc:=hc,f6:=(fun _=>rfl) }⟩
    ·obtain rfl:b7 = false:=by simpa using hl9
     obtain ⟨o9,ho9,hd9⟩:=(mem_ready.1 hi9).2
     cases ho9
     have e6:b6 = true:=hd9 ⟨6,.data⟩ (by simp) rfl
     subst e6
     have h9:=hR.f6 rfl
     subst h9
     have hc:=hR.hc
     have c9_0:=hc.st.cellAt (hc.old ⟨w1.heap.size,#[.slice B1 K1 D1,.slice B2 K2 D2,.slice B3 K3 D3,.slice B4 K4 D4,.slice B5 K5 D5,.bool true],111⟩ (by simp)).1 1 (.slice B2 K2 D2) rfl
     simp only [] at c9_0
     refine wpOp_step rfl fun K hK=>?_
     go_simp
     exact hK _ _ ⟨⟨_,_,_,_,_,_,_,_,_,_,_,_,_,_,_,_,_,_,_,_,_,_,_,_,_,_,_,A8,N8,C8,M8,E8,A11,N11,C11,M11,E11,A12,N12,C12,M12,E12,_,_⟩,rfl,rfl,{ hR with hc:=hc,f7:=(fun _=>rfl) }⟩
    ·obtain rfl:b8 = false:=by simpa using hl9
     obtain ⟨o9,ho9,hd9⟩:=(mem_ready.1 hi9).2
     cases ho9
     have e3:b3 = true:=hd9 ⟨3,.data⟩ (by simp) rfl
     have e5:b5 = true:=hd9 ⟨5,.data⟩ (by simp) rfl
     have e7:b7 = true:=hd9 ⟨7,.data⟩ (by simp) rfl
     subst e3 e5 e7
     have h9:=hR.f3 rfl
     subst h9
     have h9:=hR.f5 rfl
     subst h9
     have h9:=hR.f7 rfl
     subst h9
     have hc:=hR.hc
     obtain rfl:b11 = false:=by cases h:b11; rfl; exact Bool.noConfusion (hR.g11_8 h)
     obtain rfl:b12 = false:=by cases h:b12; rfl; exact Bool.noConfusion (hR.g12_11 h)
     simp only [cond_false] at hc
     have HR:=hide hR
     clear hR
     refine wpOp_step rfl fun K hK=>?_
     go_simp
     go_wp2_with fail
     refine (W_add hc.st D1 D2 (hc.st.ow (B1,K1,D1,V1) (hc.oso _ (by simp))).num (hc.st.ow (B2,K2,D2,V2) (hc.oso _ (by simp))).num).mono ?_
     rintro en w9 ⟨a9,n9,c9,m9,e9,rfl,hs9,hz,hz9⟩
     have hR:=unhide HR
     exact hK _ _ ⟨⟨_,_,_,_,_,_,_,_,_,_,_,_,_,_,_,_,_,_,_,_,_,_,_,_,_,_,_,_,_,_,_,_,A11,N11,C11,M11,E11,A12,N12,C12,M12,E12,_,_⟩,rfl,rfl,{ hR with hc:=(hc.call hs9 hz9 (fun y hy=>List.mem_cons_of_mem _ hy)),f8:=(fun _=>⟨rfl,List.mem_cons_self ..,hz⟩),f11:=(fun h=>Bool.noConfusion (hR.g11_8 h)),f12:=(fun h=>Bool.noConfusion (hR.g12_8 h)),o0_1:=(fun h=>Bool.noConfusion (hR.g13_8 h)),g11_8:=(fun _=>rfl),g12_8:=(fun _=>rfl),g13_8:=(fun _=>rfl) }⟩
    ·obtain rfl:b9 = false:=by simpa using hl9
     have hc:=hR.hc
     refine wpOp_step rfl fun K hK=>?_
     go_simp
     exact hK _ _ ⟨⟨_,_,_,_,_,_,_,_,_,_,_,_,_,_,_,_,_,_,_,_,_,_,_,_,_,_,_,A8,N8,C8,M8,E8,A11,N11,C11,M11,E11,A12,N12,C12,M12,E12,_,_⟩,rfl,rfl,{ hR with hc:=hc,f9:=(fun _=>rfl) }⟩
    ·obtain rfl:b10 = false:=by simpa using hl9
     obtain ⟨o9,ho9,hd9⟩:=(mem_ready.1 hi9).2
     cases ho9
     have e9:b9 = true:=hd9 ⟨9,.data⟩ (by simp) rfl
     subst e9
     have h9:=hR.f9 rfl
     subst h9
     have hc:=hR.hc
     have c9_0:=hc.st.cellAt (hc.old ⟨w1.heap.size,#[.slice B1 K1 D1,.slice B2 K2 D2,.slice B3 K3 D3,.slice B4 K4 D4,.slice B5 K5 D5,.bool true],111⟩ (by simp)).1 4 (.slice B5 K5 D5) rfl
     simp only [] at c9_0
     refine wpOp_step rfl fun K hK=>?_
     go_simp
     exact hK _ _ ⟨⟨_,_,_,_,_,_,_,_,_,_,_,_,_,_,_,_,_,_,_,_,_,_,_,_,_,_,_,A8,N8,C8,M8,E8,A11,N11,C11,M11,E11,A12,N12,C12,M12,E12,_,_⟩,rfl,rfl,{ hR with hc:=hc,f10:=(fun _=>rfl) }⟩
    ·obtain rfl:b11 = false:=by simpa using hl9
     obtain ⟨o9,ho9,hd9⟩:=(mem_ready.1 hi9).2
     cases ho9
     have e2:b2 = true:=hd9 ⟨2,.data⟩ (by simp) rfl
     have e8:b8 = true:=hd9 ⟨8,.data⟩ (by simp) rfl
     have e10:b10 = true:=hd9 ⟨10,.data⟩ (by simp) rfl
     subst e2 e8 e10
     have h9:=hR.f2 rfl
     subst h9
     have q8:=hR.f8 rfl
     obtain ⟨h9,q8m,q8z⟩:=q8
     subst h9
     have h9:=hR.f10 rfl
     subst h9
     have hc:=hR.hc
     obtain rfl:b12 = false:=by cases h:b12; rfl; exact Bool.noConfusion (hR.g12_11 h)
     simp only [cond_true,cond_false] at hc
     have HR:=hide hR
     clear hR
     refine wpOp_step rfl fun K hK=>?_
     go_simp
     go_wp2_with fail
     refine (W_mul hc.st C8 D5 (hc.st.ow _ q8m).num (hc.st.ow (B5,K5,D5,V5) (hc.oso _ (by simp))).num).mono ?_
     rintro en w9 ⟨a9,n9,c9,m9,e9,rfl,hs9,hz,hz9⟩
     have hR:=unhide HR
     exact hK _ _ ⟨⟨_,_,_,_,_,_,_,_,_,_,_,_,_,_,_,_,_,_,_,_,_,_,_,_,_,_,_,A8,N8,C8,M8,E8,_,_,_,_,_,A12,N12,C12,M12,E12,_,_⟩,rfl,rfl,{ hR with hc:=(hc.call hs9 hz9 (fun y hy=>List.mem_cons_of_mem _ hy)),f8:=(fun h=>⟨(hR.f8 h).1,List.mem_cons_of_mem _ (hR.f8 h).2.1,(hR.f8 h).2.2⟩),f11:=(fun _=>⟨rfl,List.mem_cons_self ..,hz⟩),f12:=(fun h=>Bool.noConfusion (hR.g12_11 h)),o0_1:=(fun h=>Bool.noConfusion (hR.g13_11 h)),g11_8:=(fun _=>rfl),g12_11:=(fun _=>rfl),g13_11:=(fun _=>rfl) }⟩
    ·obtain rfl:b12 = false:=by simpa using hl9
     obtain ⟨o9,ho9,hd9⟩:=(mem_ready.1 hi9).2
     cases ho9
     have e0:b0 = true:=hd9 ⟨0,.data⟩ (by simp) rfl
     have e1:b1 = true:=hd9 ⟨1,.data⟩ (by simp) rfl
     have e11:b11 = true:=hd9 ⟨11,.data⟩ (by simp) rfl
     subst e0 e1 e11
     have h9:=hR.f0 rfl
     subst h9
     have h9:=hR.f1 rfl
     subst h9
     have q11:=hR.f11 rfl
     obtain ⟨h9,q11m,q11z⟩:=q11
     subst h9
     have hc:=hR.hc
     obtain rfl:b8 = true:=hR.g11_8 rfl
     simp only [cond_true,cond_false] at hc
     have HR:=hide hR
     clear hR
     refine wpOp_step rfl fun K hK=>?_
     go_simp
     go_wp2_with fail
     refine (W_add hc.st x3_C3 C11 (hc.st.ow (x3_A3,x3_N3,x3_C3,x3_M3) (hc.oso _ (by simp))).num (hc.st.ow _ q11m).num).mono ?_
     rintro en w9 ⟨a9,n9,c9,m9,e9,rfl,hs9,hz,hz9⟩
     have hR:=unhide HR
     exact hK _ _ ⟨⟨_,_,_,_,_,_,_,_,_,_,_,_,_,_,_,_,_,_,_,_,_,_,_,_,_,_,_,A8,N8,C8,M8,E8,A11,N11,C11,M11,E11,_,_,_,_,_,_,_⟩,rfl,rfl,{ hR with hc:=(hc.call hs9 hz9 (fun y hy=>List.mem_cons_of_mem _ hy)),f8:=(fun h=>⟨(hR.f8 h).1,List.mem_cons_of_mem _ (hR.f8 h).2.1,(hR.f8 h).2.2⟩),f11:=(fun h=>⟨(hR.f11 h).1,List.mem_cons_of_mem _ (hR.f11 h).2.1,(hR.f11 h).2.2⟩),f12:=(fun _=>⟨rfl,List.mem_cons_self ..,hz⟩),o0_1:=(fun h=>Bool.noConfusion (hR.g13_12 h)),g12_11:=(fun _=>rfl),g12_8:=(fun _=>hR.g11_8 rfl),g13_12:=(fun _=>rfl) }⟩
    ·obtain rfl:b13 = false:=by simpa using hl9
     obtain ⟨o9,ho9,hd9⟩:=(mem_ready.1 hi9).2
     cases ho9
     have e12:b12 = true:=hd9 ⟨12,.data⟩ (by simp) rfl
     have e1:b1 = true:=hd9 ⟨1,.phase⟩ (by simp) rfl
     subst e12 e1
     have q12:=hR.f12 rfl
     obtain ⟨h9,q12m,q12z⟩:=q12
     subst h9
     have h9:=hR.f1 rfl
     subst h9
     have hc:=hR.hc
     have hm9:=hR.o0_0 rfl
     have fz9_0:=hc.st.frozen hm9 0
     have cz9_0:=hc.st.cellAt hm9 0 (.slice x3_A3 x3_N3 x3_C3) rfl
     simp only [] at fz9_0 cz9_0
     have hn9:∀ x,x∈([⟨w1.heap.size,#[.slice B1 K1 D1,.slice B2 K2 D2,.slice B3 K3 D3,.slice B4 K4 D4,.slice B5 K5 D5,.bool true],111⟩,⟨w.heap.size+1,#[.bool false,.slice none 0 0,.slice none 0 0],29⟩,⟨w.heap.size,#[.bool s,.slice a1 n1 c1,.slice a2 n2 c2,.bool s,.slice a3 n3 c3,.slice a4 n4 c4],52⟩]:List En)→x.b≠w2.heap.size:=by intro x hx; rcases List.mem_cons.1 hx with rfl|hx; (simp only []; omega); rcases List.mem_cons.1 hx with rfl|hx; (simp only []; omega); rcases List.mem_cons.1 hx with rfl|hx; (simp only []; omega);  exact absurd hx List.not_mem_nil
     have hw9:w.heap.size≤w2.heap.size:=by omega
     refine wpOp_step rfl fun K hK=>?_
     go_simp
     exact hK _ _ ⟨⟨_,_,_,_,_,_,_,_,_,_,_,_,_,_,_,_,_,_,_,_,_,_,_,_,_,_,_,A8,N8,C8,M8,E8,A11,N11,C11,M11,E11,A12,N12,C12,M12,E12,_,_⟩,rfl,rfl,{ hR with hc:=(hc.store hm9 hw9 hn9 0 (.slice A12 N12 C12) (by simp)),o0_0:=(fun h=>Bool.noConfusion h),o0_1:=(fun _=>List.mem_cons_self ..),g13_1:=(fun _=>rfl),g13_12:=(fun _=>rfl),g13_11:=(fun _=>hR.g12_11 rfl),g13_8:=(fun _=>hR.g12_8 rfl) }⟩
   ·rintro l act Wq4 ⟨⟨b0,b1,b2,b3,b4,b5,b6,b7,b8,b9,b10,b11,b12,b13,v0,v1,v2,v3,v4,v5,v6,v7,v8,v9,v10,v11,v12,x4_A8,x4_N8,x4_C8,x4_M8,x4_E8,x4_A11,x4_N11,x4_C11,x4_M11,x4_E11,x4_A12,x4_N12,x4_C12,x4_M12,x4_E12,bs9,os9⟩,rfl,rfl,hR⟩ hr9
    obtain ⟨hc,f0,f1,f2,f3,f4,f5,f6,f7,f8,f9,f10,f11,f12,o0_0,o0_1,g13_1,g11_8,g12_11,g12_8,g13_12,g13_11,g13_8⟩:=hR
    have eall:=all_done hr9 (by kernel_rfl) rfl
    obtain rfl:b0 = true:=eall 0 (by decide)
    obtain rfl:b1 = true:=eall 1 (by decide)
    obtain rfl:b2 = true:=eall 2 (by decide)
    obtain rfl:b3 = true:=eall 3 (by decide)
    obtain rfl:b4 = true:=eall 4 (by decide)
    obtain rfl:b5 = true:=eall 5 (by decide)
    obtain rfl:b6 = true:=eall 6 (by decide)
    obtain rfl:b7 = true:=eall 7 (by decide)
    obtain rfl:b8 = true:=eall 8 (by decide)
    obtain rfl:b9 = true:=eall 9 (by decide)
    obtain rfl:b10 = true:=eall 10 (by decide)
    obtain rfl:b11 = true:=eall 11 (by decide)
    obtain rfl:b12 = true:=eall 12 (by decide)
    obtain rfl:b13 = true:=eall 13 (by decide)
    clear hr9 eall
    have h9:=f0 rfl
    subst h9
    have h9:=f1 rfl
    subst h9
    have h9:=f2 rfl
    subst h9
    have h9:=f3 rfl
    subst h9
    have h9:=f4 rfl
    subst h9
    have h9:=f5 rfl
    subst h9
    have h9:=f6 rfl
    subst h9
    have h9:=f7 rfl
    subst h9
    obtain ⟨h9,q8m,qx4_8⟩:=f8 rfl
    subst h9
    have h9:=f9 rfl
    subst h9
    have h9:=f10 rfl
    subst h9
    obtain ⟨h9,q11m,qx4_11⟩:=f11 rfl
    subst h9
    obtain ⟨h9,q12m,qx4_12⟩:=f12 rfl
    subst h9
    simp only [cond_true] at hc
    have hbs9:∀ x,x∈([⟨w2.heap.size,#[.slice x4_A12 x4_N12 x4_C12],27⟩,⟨w1.heap.size,#[.slice B1 K1 D1,.slice B2 K2 D2,.slice B3 K3 D3,.slice B4 K4 D4,.slice B5 K5 D5,.bool true],111⟩,⟨w.heap.size+1,#[.bool false,.slice none 0 0,.slice none 0 0],29⟩,⟨w.heap.size,#[.bool s,.slice a1 n1 c1,.slice a2 n2 c2,.bool s,.slice a3 n3 c3,.slice a4 n4 c4],52⟩]:List En)→x∈bs9:=by
     intro x hx
     rcases List.mem_cons.1 hx with rfl|hx
     ·exact (o0_1 rfl)
     rcases List.mem_cons.1 hx with rfl|hx
     ·exact (hc.old _ (by simp)).1
     rcases List.mem_cons.1 hx with rfl|hx
     ·exact (hc.old _ (by simp)).1
     rcases List.mem_cons.1 hx with rfl|hx
     ·exact (hc.old _ (by simp)).1
     exact absurd hx List.not_mem_nil
    have hos9:∀ x,x∈([(x4_A8,x4_N8,x4_C8,x4_M8),(x4_A11,x4_N11,x4_C11,x4_M11),(x4_A12,x4_N12,x4_C12,x4_M12),(x3_A3,x3_N3,x3_C3,x3_M3),(B5,K5,D5,V5),(B4,K4,D4,V4),(B3,K3,D3,V3),(B2,K2,D2,V2),(B1,K1,D1,V1)]:Os)→x∈os9:=by
     intro x hx
     rcases List.mem_cons.1 hx with rfl|hx
     ·exact q8m
     rcases List.mem_cons.1 hx with rfl|hx
     ·exact q11m
     rcases List.mem_cons.1 hx with rfl|hx
     ·exact q12m
     rcases List.mem_cons.1 hx with rfl|hx
     ·exact hc.oso _ (by simp)
     rcases List.mem_cons.1 hx with rfl|hx
     ·exact hc.oso _ (by simp)
     rcases List.mem_cons.1 hx with rfl|hx
     ·exact hc.oso _ (by simp)
     rcases List.mem_cons.1 hx with rfl|hx
     ·exact hc.oso _ (by simp)
     rcases List.mem_cons.1 hx with rfl|hx
     ·exact hc.oso _ (by simp)
     rcases List.mem_cons.1 hx with rfl|hx
     ·exact hc.oso _ (by simp)
     exact absurd hx List.not_mem_nil
    have hS:=hc.st.sub hbs9 (fun x hx=>hx) hos9
    have hsz9:=hc.sz
    rw [hS9z,hsW9] at hsz9
    clear hbs9 hos9 hc f0 f1 f2 f3 f4 f5 f6 f7 f8 f9 f10 f11 f12 o0_0 o0_1 g13_1 g11_8 g12_11 g12_8 g13_12 g13_11 g13_8
    clear q8m q11m q12m
    have hz4:=hsz9
    clear hsz9 hS9z hS9 hC9 hsW9
    have Qx4_8:=hide qx4_8
    clear qx4_8
    have Qx4_11:=hide qx4_11
    clear qx4_11
    have Qx4_12:=hide qx4_12
    clear qx4_12
    obtain ⟨⟨k0_0,-⟩,-⟩:=hS.cz ⟨w2.heap.size,#[.slice x4_A12 x4_N12 x4_C12],27⟩ (by simp)
    obtain ⟨⟨k1_0,k1_1,k1_2,k1_3,k1_4,k1_5,-⟩,-⟩:=hS.cz ⟨w1.heap.size,#[.slice B1 K1 D1,.slice B2 K2 D2,.slice B3 K3 D3,.slice B4 K4 D4,.slice B5 K5 D5,.bool true],111⟩ (by simp)
    obtain ⟨⟨k2_0,k2_1,k2_2,-⟩,-⟩:=hS.cz ⟨w.heap.size+1,#[.bool false,.slice none 0 0,.slice none 0 0],29⟩ (by simp)
    obtain ⟨⟨k3_0,k3_1,k3_2,k3_3,k3_4,k3_5,-⟩,-⟩:=hS.cz ⟨w.heap.size,#[.bool s,.slice a1 n1 c1,.slice a2 n2 c2,.bool s,.slice a3 n3 c3,.slice a4 n4 c4],52⟩ (by simp)
    simp only [] at k0_0 k1_0 k1_1 k1_2 k1_3 k1_4 k1_5 k2_0 k2_1 k2_2 k3_0 k3_1 k3_2 k3_3 k3_4 k3_5
    go_wp2_with fail
    have hfb:=hS.fr
    clear k0_0 k1_0 k1_1 k1_2 k1_3 k1_4 k1_5 k2_0 k2_1 k2_2 k3_0 k3_1 k3_2 k3_3 k3_4 k3_5
    refine (W_frac hS s x4_A12 B5 x4_N12 K5 x4_C12 D5).mono ?_
    clear hS; rintro en Wz ⟨⟨s7,b7,k7,l7,b8,k8,l8,r7,rfl,q7⟩,hS,hzz⟩
    have Q7:=hide q7
    clear q7
    obtain ⟨⟨k0_0,k0_1,k0_2,-⟩,z0⟩:=hS.cz ⟨w.heap.size+1,#[.bool false,.slice none 0 0,.slice none 0 0],29⟩ (by simp)
    have z0_0:=z0 0
    have z0_1:=z0 1
    have z0_2:=z0 2
    clear z0
    simp only [] at k0_0 z0_0 k0_1 z0_1 k0_2 z0_2
    go_wp2
    have hend:=tog_end hd1 hd2 hc1 hc2 (unhide QS) (unhide Q2) (unhide Qx3_3) (unhide Qx4_8) (unhide Qx4_11) (unhide Qx4_12)
    have q7:=unhide Q7
    replace hS:=hS.sub (bs':=[⟨w.heap.size+1,#[.bool false,.slice none 0 0,.slice none 0 0],29⟩]) (ms':=[]) (by intro x hx; rcases List.mem_cons.1 hx with rfl|hx; simp; exact absurd hx List.not_mem_nil) (by intro x hx; exact absurd hx List.not_mem_nil) (fun x hx=>hx)
    have u1:=hS.cellAt (x:=⟨w.heap.size+1,#[.bool false,.slice none 0 0,.slice none 0 0],29⟩) (by simp) 0 (.bool false) rfl
    have y1:=hS.frozen (x:=⟨w.heap.size+1,#[.bool false,.slice none 0 0,.slice none 0 0],29⟩) (by simp) 0
    simp only [] at u1 y1
    replace hS:=hS.put (x:=⟨w.heap.size+1,#[.bool false,.slice none 0 0,.slice none 0 0],29⟩) (by simp) (by simp only []; omega) 0 (.bool s7) (by simp) [⟨w.heap.size+1,#[.bool s7,.slice none 0 0,.slice none 0 0],29⟩] (by intro y hy; rcases List.mem_cons.1 hy with rfl|hy; exact Or.inl rfl; exact absurd hy List.not_mem_nil)
    have u2:=hS.cellAt (x:=⟨w.heap.size+1,#[.bool s7,.slice none 0 0,.slice none 0 0],29⟩) (by simp) 1 (.slice none 0 0) rfl
    have y2:=hS.frozen (x:=⟨w.heap.size+1,#[.bool s7,.slice none 0 0,.slice none 0 0],29⟩) (by simp) 1
    simp only [] at u2 y2
    replace hS:=hS.put (x:=⟨w.heap.size+1,#[.bool s7,.slice none 0 0,.slice none 0 0],29⟩) (by simp) (by simp only []; omega) 1 (.slice b7 k7 l7) (by simp) [⟨w.heap.size+1,#[.bool s7,.slice b7 k7 l7,.slice none 0 0],29⟩] (by intro y hy; rcases List.mem_cons.1 hy with rfl|hy; exact Or.inl rfl; exact absurd hy List.not_mem_nil)
    have u3:=hS.cellAt (x:=⟨w.heap.size+1,#[.bool s7,.slice b7 k7 l7,.slice none 0 0],29⟩) (by simp) 2 (.slice none 0 0) rfl
    have y3:=hS.frozen (x:=⟨w.heap.size+1,#[.bool s7,.slice b7 k7 l7,.slice none 0 0],29⟩) (by simp) 2
    simp only [] at u3 y3
    replace hS:=hS.put (x:=⟨w.heap.size+1,#[.bool s7,.slice b7 k7 l7,.slice none 0 0],29⟩) (by simp) (by simp only []; omega) 2 (.slice b8 k8 l8) (by simp) [⟨w.heap.size+1,#[.bool s7,.slice b7 k7 l7,.slice b8 k8 l8],29⟩] (by intro y hy; rcases List.mem_cons.1 hy with rfl|hy; exact Or.inl rfl; exact absurd hy List.not_mem_nil)
    have hbel:=hS.fr
    refine bodyPost_ret (v:=.tuple #[RatV s7 b7 k7 l7 b8 k8 l8,.int .i64 r7]) (by simp [results,Tryz.results50,go_sem,RatV,k0_0,k0_1,k0_2]) rfl ⟨?_,hbel⟩
    have o1:=hS.ow (x4_A12,x4_N12,x4_C12,x4_M12) (by simp)
    have o2:=hS.ow (B5,K5,D5,V5) (by simp)
    rcases q7 with ⟨h0,rfl,rfl,rfl,rfl,rfl,rfl,rfl,rfl⟩|⟨h0,rfl,rfl,rfl,rfl,rfl,rfl,rfl,rfl⟩
    ·obtain ⟨e1,e2⟩:=hend.1 h0
     have hz1:=o1.num.zero
     simp only [] at o1 o2 hz1
     rw [e1] at o1 hz1
     rw [e2] at o2
     refine Or.inl ⟨_,_,_,_,_,_,?_,o1,o2⟩
     rw [show decide (k7 = 0) = decide (_ = 0) from decide_eq_decide.2 hz1]
     all_goals rfl
    ·obtain ⟨e1,e2⟩:=hend.2 h0
     exact Or.inr ⟨by rw [e1],e2⟩
   ·simp
   ·exact ⟨⟨false,false,false,false,false,false,false,false,false,false,false,false,false,false,undef,undef,undef,undef,undef,undef,undef,undef,undef,undef,undef,undef,undef,none,0,0,0,0,none,0,0,0,0,none,0,0,0,0,_,_⟩,rfl,rfl,⟨hC9,nb,nb,nb,nb,nb,nb,nb,nb,nb,nb,nb,nb,nb,(fun _=>by simp),nb,nb,nb,nb,nb,nb,nb,nb⟩⟩
  ·simp
  ·exact ⟨⟨false,false,false,false,false,undef,undef,undef,undef,none,0,0,none,0,0,0,0,_,_⟩,rfl,rfl,⟨hC9,nb,nb,nb,nb,(fun _=>by simp),nb,nb,nb,nb,nb⟩⟩
def FrD (e:Int) (s:Bool) (a:Option Addr) (n c:Nat) (a':Option Addr) (n' c':Nat) (s':Bool) (b:Option Addr) (k l:Nat) (b':Option Addr) (k' l':Nat) (r:Int):Prop:=
 (e = 0∧r = 0∧s' = (s && !decide (n = 0))∧b = a∧k = n∧l = c∧b' = a'∧k' = n'∧l' = c')∨(e≠0∧r = e∧s' = false∧b = none∧k = 0∧l = 0∧b' = none∧k' = 0∧l' = 0)
def FrW (w0 W:World) (p:Nat) (e:Int) (bs:List En) (ms:Ms) (os:Os) (s:Bool) (a:Option Addr) (n c:Nat) (a':Option Addr) (n' c':Nat) (en:Ending) (W':World):Prop:=
 (∃ s' b k l b' k' l' r,en = .returned (.tuple #[.agg #[.bool s',.slice b k l,.slice b' k' l'],.int .i64 r])∧FrD e s a n c a' n' c' s' b k l b' k' l' r)∧Rs w0 W' (some (p,e)) bs ms os∧W.heap.size≤W'.heap.size
theorem W_fracD {w0 W:World} {p:Nat} {e:Int} {bs:List En} {ms:Ms} {os:Os} (hS:Rs w0 W (some (p,e)) bs ms os) (s:Bool) (a a':Option Addr) (n n' c c':Nat) :
  Calls Tryz.prog 30 #[.pointer (some ⟨p,0,none⟩),.bool s,.agg #[.slice a n c],.agg #[.slice a' n' c']] W (FrW w0 W p e bs ms os s a n c a' n' c'):=
 (W_frac hS s a a' n n' c c').mono fun _ _ h=>h
theorem make_end {m d M1 N D:Nat} {e1 e2 e3:Int} (hd:0 < d) (q1:Wz 0 e1 M1 (Nat.gcd m d) False) (q2:∃ R,Wd e1 e2 N R m M1) (q3:∃ R,Wd e2 e3 D R d M1) :
  (e3 = 0→N = m / Nat.gcd m d∧D = d / Nat.gcd m d)∧e3 = 0:=by
 obtain ⟨R2,q2⟩:=q2
 obtain ⟨R3,q3⟩:=q3
 have p1:0 < Nat.gcd m d:=Nat.gcd_pos_of_pos_right _ hd
 have s1:Sf e1 False:=q1.next (Or.inl rfl) (fun _ h=>h)
 have f1:e1 = 0→M1 = Nat.gcd m d:=fun h=>(q1.ok h).2
 have s2:=q2.next s1 (fun h=>by rw [f1 h]; exact p1)
 have s3:=q3.next s2 (fun h=>by rw [f1 (q2.ok h).1]; exact p1)
 refine ⟨fun h=>?_,?_⟩
 ·have k:=q3.ok h
  have l:=q2.ok k.1
  rw [f1 l.1] at k l
  exact ⟨l.2.1,k.2.1⟩
 ·rcases s3 with h|⟨_,h⟩
  ·exact h
  ·exact h.elim
structure Mak5S where
 (b0 b1 b2 b3 b4 b5 b6 b7 b8 b9 b10 b11:Bool)
 (v0 v1 v2 v3 v4 v5 v6 v7 v8 v9 v11:Value)
 (A3:Option Addr)
 (N3 C3:Nat)
 (M3:Nat)
 (E3:Int)
 (A6:Option Addr)
 (N6 C6:Nat)
 (M6:Nat)
 (E6:Int)
 (Z7:Bool) (A7:Option Addr) (N7 C7:Nat) (P7:Option Addr) (Q7 R7:Nat) (E7:Int)
 bs9:List En
 os9:Os
structure Mak5R (w:World) (s:Bool) (a a':Option Addr) (n n' c c' m d:Nat) (w3:World) (yA4:Option Addr) (yN4 yC4 yM4:Nat) (yE4:Int) (w4:World) (S9:Nat) (b0 b1 b2 b3 b4 b5 b6 b7 b8 b9 b10 b11:Bool) (v0 v1 v2 v3 v4 v5 v6 v7 v8 v9 v11:Value) (A3:Option Addr) (N3 C3:Nat) (M3:Nat) (E3:Int) (A6:Option Addr) (N6 C6:Nat) (M6:Nat) (E6:Int) (Z7:Bool) (A7:Option Addr) (N7 C7:Nat) (P7:Option Addr) (Q7 R7:Nat) (E7:Int) (bs9:List En) (os9:Os) (w':World):Prop where
 hc:Rc w S9 [⟨w4.heap.size,#[.slice yA4 yN4 yC4],27⟩,⟨w.heap.size+1,#[.slice a' n' c'],27⟩,⟨w.heap.size,#[.slice a n c],27⟩] [(a',n',d),(a,n,m)] [(yA4,yN4,yC4,yM4)] (some ((w3.heap.size),(cond b6 E6 (cond b3 E3 yE4)))) bs9 os9 w'
 f0:b0 = true→v0 = .bool s
 f1:b1 = true→v1 = .agg #[.slice a n c]
 f2:b2 = true→v2 = .agg #[.slice yA4 yN4 yC4]
 f3:b3 = true→v3 = .agg #[.slice A3 N3 C3]∧(A3,N3,C3,M3)∈os9∧(∃ R,Wd yE4 E3 M3 R m yM4)
 f4:b4 = true→v4 = .agg #[.slice a' n' c']
 f5:b5 = true→v5 = .agg #[.slice yA4 yN4 yC4]
 f6:b6 = true→v6 = .agg #[.slice A6 N6 C6]∧(A6,N6,C6,M6)∈os9∧(∃ R,Wd E3 E6 M6 R d yM4)
 f7:b7 = true→v7 = .tuple #[.agg #[.bool Z7,.slice A7 N7 C7,.slice P7 Q7 R7],.int .i64 E7]∧FrD E6 s A3 N3 C3 A6 N6 C6 Z7 A7 N7 C7 P7 Q7 R7 E7
 f8:b8 = true→v8 = .agg #[.bool Z7,.slice A7 N7 C7,.slice P7 Q7 R7]
 f9:b9 = true→v9 = .int .i64 E7
 f11:b11 = true→v11 = .int .i64 E7
 o0_0:b10 = false→⟨w.heap.size+1+1,#[.bool false,.slice none 0 0,.slice none 0 0],29⟩∈bs9
 o0_1:b10 = true→⟨w.heap.size+1+1,#[.bool Z7,.slice A7 N7 C7,.slice P7 Q7 R7],29⟩∈bs9
 g6_3:b6 = true→b3 = true
 g7_3:b7 = true→b3 = true
 g7_6:b7 = true→b6 = true
 g8_7:b8 = true→b7 = true
 g8_3:b8 = true→b3 = true
 g8_6:b8 = true→b6 = true
 g9_7:b9 = true→b7 = true
 g9_3:b9 = true→b3 = true
 g9_6:b9 = true→b6 = true
 g10_8:b10 = true→b8 = true
 g10_7:b10 = true→b7 = true
 g10_3:b10 = true→b3 = true
 g10_6:b10 = true→b6 = true
 g11_7:b11 = true→b7 = true
 g11_3:b11 = true→b3 = true
 g11_6:b11 = true→b6 = true
def Mak5I (w:World) (s:Bool) (a a':Option Addr) (n n' c c' m d:Nat) (w3:World) (yA4:Option Addr) (yN4 yC4 yM4:Nat) (yE4:Int) (w4:World) (S9:Nat) (l:Array Bool) (act:Act) (w':World):Mak5S→Prop
 | ⟨b0,b1,b2,b3,b4,b5,b6,b7,b8,b9,b10,b11,v0,v1,v2,v3,v4,v5,v6,v7,v8,v9,v11,A3,N3,C3,M3,E3,A6,N6,C6,M6,E6,Z7,A7,N7,C7,P7,Q7,R7,E7,bs9,os9⟩=>l = #[b0,b1,b2,b3,b4,b5,b6,b7,b8,b9,b10,b11]∧act = { tmps:=#[.bool s,.agg #[.slice a n c],.agg #[.slice a' n' c'],undef,.pointer (some ⟨w.heap.size,0,none⟩),.pointer (some ⟨w.heap.size+1,0,none⟩),.pointer (some ⟨w.heap.size+1+1,0,none⟩),v11,.int .i64 0,.int .i64 0,.pointer (some ⟨w3.heap.size,0,none⟩),.pointer (some ⟨w4.heap.size,0,none⟩),.agg #[.slice a n c],.int .i64 0,.int .i64 0,.bool false,undef,undef,.agg #[.slice a' n' c'],.int .i64 0,.int .i64 0,.bool false,undef,undef,.agg #[.slice a' n' c'],.bool false,undef,.agg #[.slice a n c],.agg #[.slice a' n' c'],.agg #[.slice yA4 yN4 yC4],v0,v1,v2,v3,v4,v5,v6,v7,v8,v9],defers:=[] }∧Mak5R w s a a' n n' c c' m d w3 yA4 yN4 yC4 yM4 yE4 w4 S9 b0 b1 b2 b3 b4 b5 b6 b7 b8 b9 b10 b11 v0 v1 v2 v3 v4 v5 v6 v7 v8 v9 v11 A3 N3 C3 M3 E3 A6 N6 C6 M6 E6 Z7 A7 N7 C7 P7 Q7 R7 E7 bs9 os9 w'
theorem make_any (s:Bool) (a a':Option Addr) (n n' c c' m d:Nat) (w:World) (h1:Num w a n m) (h2:Num w a' n' d) (hd:0 < d) :
  Calls Tryz.prog 9 #[.bool s,.agg #[.slice a n c],.agg #[.slice a' n' c']] w fun en w'=>RAns w' w.heap.size en s (m / Nat.gcd m d) (d / Nat.gcd m d)∧Below w.heap.size w w':=by
 have hn0:decide (n' = 0) = false:=by rw [decide_eq_false_iff_not]; intro e; have:=h2.zero.1 e; omega
 have hS:=Rs.begin w
 replace hS:=hS.num h1
 replace hS:=hS.num h2
 replace hS:=hS.alloc #[.slice a n c] 27
 try simp only [World.size_alloc] at hS
 replace hS:=hS.alloc #[.slice a' n' c'] 27
 try simp only [World.size_alloc] at hS
 replace hS:=hS.alloc #[.bool false,.slice none 0 0,.slice none 0 0] 29
 try simp only [World.size_alloc] at hS
 go_enter Tryz.func9,Tryz.ntmps9
 go_wp2_with fail
 refine (check_num a n c m _ (hS.nm (a,n,m) (by simp))).mono ?_
 rintro en w1 ⟨rfl,hb9⟩
 have hz1:=hb9.size
 replace hS:=hS.kept hb9
 clear hb9
 simp only [World.size_alloc] at hz1
 obtain ⟨⟨k0_0,-⟩,z0⟩:=hS.cz ⟨w.heap.size+1,#[.slice a' n' c'],27⟩ (by simp)
 have z0_0:=z0 0
 clear z0
 simp only [] at k0_0 z0_0
 go_wp2_with fail
 clear k0_0 z0_0
 refine (check_num a' n' c' d _ (hS.nm (a',n',d) (by simp))).mono ?_
 rintro en w2 ⟨rfl,hb9⟩
 have hz2:=hb9.size
 replace hS:=hS.kept hb9
 clear hb9
 obtain ⟨⟨k0_0,-⟩,z0⟩:=hS.cz ⟨w.heap.size+1,#[.slice a' n' c'],27⟩ (by simp)
 have z0_0:=z0 0
 clear z0
 simp only [] at k0_0 z0_0
 go_wp2_with fail
 clear k0_0 z0_0
 refine (nought_any a' n' c' _).mono ?_
 rintro en w3 ⟨rfl,hb9⟩
 have hz3:=hb9.size
 replace hS:=hS.kept hb9
 clear hb9
 rw [hn0]
 obtain ⟨⟨k0_0,-⟩,z0⟩:=hS.cz ⟨w.heap.size+1,#[.slice a' n' c'],27⟩ (by simp)
 have z0_0:=z0 0
 clear z0
 obtain ⟨⟨k1_0,-⟩,z1⟩:=hS.cz ⟨w.heap.size,#[.slice a n c],27⟩ (by simp)
 have z1_0:=z1 0
 clear z1
 simp only [] at k0_0 z0_0 k1_0 z1_0
 replace hS:=hS.work
 try simp only [World.size_alloc] at hS
 have kw0_0:=hS.cellAt (x:=⟨w.heap.size+1+1,#[.bool false,.slice none 0 0,.slice none 0 0],29⟩) (by simp) 0 (.bool false) rfl
 have kw0_1:=hS.cellAt (x:=⟨w.heap.size+1+1,#[.bool false,.slice none 0 0,.slice none 0 0],29⟩) (by simp) 1 (.slice none 0 0) rfl
 have kw0_2:=hS.cellAt (x:=⟨w.heap.size+1+1,#[.bool false,.slice none 0 0,.slice none 0 0],29⟩) (by simp) 2 (.slice none 0 0) rfl
 have kw1_0:=hS.cellAt (x:=⟨w.heap.size+1,#[.slice a' n' c'],27⟩) (by simp) 0 (.slice a' n' c') rfl
 have kw2_0:=hS.cellAt (x:=⟨w.heap.size,#[.slice a n c],27⟩) (by simp) 0 (.slice a n c) rfl
 simp only [] at kw0_0 kw0_1 kw0_2 kw1_0 kw2_0
 go_wp2_with fail
 clear k0_0 z0_0 k1_0 z1_0
 clear kw0_0 kw0_1 kw0_2 kw1_0 kw2_0
 refine (W_gcd hS c c' (hS.nm (a,n,m) (by simp)) (hS.nm (a',n',d) (by simp))).mono ?_
 clear hS; rintro en w4 ⟨yA4,yN4,yC4,yM4,yE4,rfl,hS,q4,hz4⟩
 have Q4:=hide q4
 clear q4
 simp only [World.size_alloc] at hz4
 replace hS:=hS.alloc #[.slice yA4 yN4 yC4] 27
 try simp only [World.size_alloc] at hS
 go_wp2_with fail
 refine wp_region_any (by kernel_rfl) ?_
 change wpAny _ _ _ _ _ _ _ (World.drew _)
 have hS9:=hS.drew
 have hsW9:(World.drew (w4.alloc (.cells #[.slice yA4 yN4 yC4] 27))).heap.size = w4.heap.size+1:=by first|rfl|simp
 generalize World.drew (w4.alloc (.cells #[.slice yA4 yN4 yC4] 27)) = Wd at hS9 hsW9 ⊢
 obtain ⟨S9,hS9z⟩:∃ x,x = Wd.heap.size:=⟨_,rfl⟩
 have hC9:=Rc.start (bs:=[⟨w4.heap.size,#[.slice yA4 yN4 yC4],27⟩,⟨w.heap.size+1,#[.slice a' n' c'],27⟩,⟨w.heap.size,#[.slice a n c],27⟩]) hS9 (by simp)
 rw [← hS9z] at hC9
 have hP9_0:=hS9.bx ⟨w.heap.size+1+1,#[.bool false,.slice none 0 0,.slice none 0 0],29⟩ (by simp)
 have hP9_0:=block_lt hP9_0.1
 rw [← hS9z] at hP9_0
 simp only [] at hP9_0
 refine wpAny_inv (fun l act w'=>∃ σ,Mak5I w s a a' n n' c c' m d w3 yA4 yN4 yC4 yM4 yE4 w4 S9 l act w' σ) ?_ ?_ _ _ _ _ ?_ ?_
 ·intro l act w' i9 hI9 hi9 hl9
  have hin9:i9 < 12:=by
   by_cases h:i9 < 12
   ·exact h
   ·obtain ⟨⟨⟩,rfl,_⟩:=hI9
    rw [Array.getElem?_eq_none (by simp; omega)] at hl9; cases hl9
  have hcase:i9 = 0∨i9 = 1∨i9 = 2∨i9 = 3∨i9 = 4∨i9 = 5∨i9 = 6∨i9 = 7∨i9 = 8∨i9 = 9∨i9 = 10∨i9 = 11:=by omega
  clear hin9
  obtain ⟨⟨b0,b1,b2,b3,b4,b5,b6,b7,b8,b9,b10,b11,v0,v1,v2,v3,v4,v5,v6,v7,v8,v9,v11,A3,N3,C3,M3,E3,A6,N6,C6,M6,E6,Z7,A7,N7,C7,P7,Q7,R7,E7,bs9,os9⟩,rfl,rfl,hR⟩:=hI9
  rcases hcase with rfl|rfl|rfl|rfl|rfl|rfl|rfl|rfl|rfl|rfl|rfl|rfl
  ·obtain rfl:b0 = false:=by simpa using hl9
   have hc:=hR.hc
   refine wpOp_step rfl fun K hK=>?_
   go_simp
   exact hK _ _ ⟨⟨_,_,_,_,_,_,_,_,_,_,_,_,_,_,_,_,_,_,_,_,_,_,_,A3,N3,C3,M3,E3,A6,N6,C6,M6,E6,Z7,A7,N7,C7,P7,Q7,R7,E7,_,_⟩,rfl,rfl,{ hR with hc:=hc,f0:=(fun _=>rfl) }⟩
  ·obtain rfl:b1 = false:=by simpa using hl9
   have hc:=hR.hc
   have c9_0:=hc.st.cellAt (hc.old ⟨w.heap.size,#[.slice a n c],27⟩ (by simp)).1 0 (.slice a n c) rfl
   simp only [] at c9_0
   refine wpOp_step rfl fun K hK=>?_
   go_simp
   exact hK _ _ ⟨⟨_,_,_,_,_,_,_,_,_,_,_,_,_,_,_,_,_,_,_,_,_,_,_,A3,N3,C3,M3,E3,A6,N6,C6,M6,E6,Z7,A7,N7,C7,P7,Q7,R7,E7,_,_⟩,rfl,rfl,{ hR with hc:=hc,f1:=(fun _=>rfl) }⟩
  ·obtain rfl:b2 = false:=by simpa using hl9
   have hc:=hR.hc
   have c9_0:=hc.st.cellAt (hc.old ⟨w4.heap.size,#[.slice yA4 yN4 yC4],27⟩ (by simp)).1 0 (.slice yA4 yN4 yC4) rfl
   simp only [] at c9_0
   refine wpOp_step rfl fun K hK=>?_
   go_simp
   exact hK _ _ ⟨⟨_,_,_,_,_,_,_,_,_,_,_,_,_,_,_,_,_,_,_,_,_,_,_,A3,N3,C3,M3,E3,A6,N6,C6,M6,E6,Z7,A7,N7,C7,P7,Q7,R7,E7,_,_⟩,rfl,rfl,{ hR with hc:=hc,f2:=(fun _=>rfl) }⟩
  ·obtain rfl:b3 = false:=by simpa using hl9
   obtain ⟨o9,ho9,hd9⟩:=(mem_ready.1 hi9).2
   cases ho9
   have e1:b1 = true:=hd9 ⟨1,.data⟩ (by simp) rfl
   have e2:b2 = true:=hd9 ⟨2,.data⟩ (by simp) rfl
   subst e1 e2
   have h9:=hR.f1 rfl
   subst h9
   have h9:=hR.f2 rfl
   subst h9
   have hc:=hR.hc
   obtain rfl:b6 = false:=by cases h:b6; rfl; exact Bool.noConfusion (hR.g6_3 h)
   simp only [cond_false] at hc
   have HR:=hide hR
   clear hR
   refine wpOp_step rfl fun K hK=>?_
   go_simp
   go_wp2_with fail
   refine (W_over hc.st c yC4 (hc.st.nm (a,n,m) (by simp)) (hc.st.ow (yA4,yN4,yC4,yM4) (hc.oso _ (by simp))).num).mono ?_
   rintro en w9 ⟨a9,n9,c9,m9,e9,rfl,hs9,hz,hz9⟩
   have hR:=unhide HR
   exact hK _ _ ⟨⟨_,_,_,_,_,_,_,_,_,_,_,_,_,_,_,_,_,_,_,_,_,_,_,_,_,_,_,_,A6,N6,C6,M6,E6,Z7,A7,N7,C7,P7,Q7,R7,E7,_,_⟩,rfl,rfl,{ hR with hc:=(hc.call hs9 hz9 (fun y hy=>List.mem_cons_of_mem _ hy)),f3:=(fun _=>⟨rfl,List.mem_cons_self ..,hz⟩),f6:=(fun h=>Bool.noConfusion (hR.g6_3 h)),f7:=(fun h=>Bool.noConfusion (hR.g7_3 h)),f8:=(fun h=>Bool.noConfusion (hR.g8_3 h)),f9:=(fun h=>Bool.noConfusion (hR.g9_3 h)),f11:=(fun h=>Bool.noConfusion (hR.g11_3 h)),o0_1:=(fun h=>Bool.noConfusion (hR.g10_3 h)),g6_3:=(fun _=>rfl),g7_3:=(fun _=>rfl),g8_3:=(fun _=>rfl),g9_3:=(fun _=>rfl),g10_3:=(fun _=>rfl),g11_3:=(fun _=>rfl) }⟩
  ·obtain rfl:b4 = false:=by simpa using hl9
   have hc:=hR.hc
   have c9_0:=hc.st.cellAt (hc.old ⟨w.heap.size+1,#[.slice a' n' c'],27⟩ (by simp)).1 0 (.slice a' n' c') rfl
   simp only [] at c9_0
   refine wpOp_step rfl fun K hK=>?_
   go_simp
   exact hK _ _ ⟨⟨_,_,_,_,_,_,_,_,_,_,_,_,_,_,_,_,_,_,_,_,_,_,_,A3,N3,C3,M3,E3,A6,N6,C6,M6,E6,Z7,A7,N7,C7,P7,Q7,R7,E7,_,_⟩,rfl,rfl,{ hR with hc:=hc,f4:=(fun _=>rfl) }⟩
  ·obtain rfl:b5 = false:=by simpa using hl9
   have hc:=hR.hc
   have c9_0:=hc.st.cellAt (hc.old ⟨w4.heap.size,#[.slice yA4 yN4 yC4],27⟩ (by simp)).1 0 (.slice yA4 yN4 yC4) rfl
   simp only [] at c9_0
   refine wpOp_step rfl fun K hK=>?_
   go_simp
   exact hK _ _ ⟨⟨_,_,_,_,_,_,_,_,_,_,_,_,_,_,_,_,_,_,_,_,_,_,_,A3,N3,C3,M3,E3,A6,N6,C6,M6,E6,Z7,A7,N7,C7,P7,Q7,R7,E7,_,_⟩,rfl,rfl,{ hR with hc:=hc,f5:=(fun _=>rfl) }⟩
  ·obtain rfl:b6 = false:=by simpa using hl9
   obtain ⟨o9,ho9,hd9⟩:=(mem_ready.1 hi9).2
   cases ho9
   have e4:b4 = true:=hd9 ⟨4,.data⟩ (by simp) rfl
   have e5:b5 = true:=hd9 ⟨5,.data⟩ (by simp) rfl
   have e3:b3 = true:=hd9 ⟨3,.chain⟩ (by simp) rfl
   subst e4 e5 e3
   have h9:=hR.f4 rfl
   subst h9
   have h9:=hR.f5 rfl
   subst h9
   have q3:=hR.f3 rfl
   obtain ⟨h9,q3m,q3z⟩:=q3
   subst h9
   have hc:=hR.hc
   simp only [cond_true,cond_false] at hc
   have HR:=hide hR
   clear hR
   refine wpOp_step rfl fun K hK=>?_
   go_simp
   go_wp2_with fail
   refine (W_over hc.st c' yC4 (hc.st.nm (a',n',d) (by simp)) (hc.st.ow (yA4,yN4,yC4,yM4) (hc.oso _ (by simp))).num).mono ?_
   rintro en w9 ⟨a9,n9,c9,m9,e9,rfl,hs9,hz,hz9⟩
   have hR:=unhide HR
   exact hK _ _ ⟨⟨_,_,_,_,_,_,_,_,_,_,_,_,_,_,_,_,_,_,_,_,_,_,_,A3,N3,C3,M3,E3,_,_,_,_,_,Z7,A7,N7,C7,P7,Q7,R7,E7,_,_⟩,rfl,rfl,{ hR with hc:=(hc.call hs9 hz9 (fun y hy=>List.mem_cons_of_mem _ hy)),f3:=(fun h=>⟨(hR.f3 h).1,List.mem_cons_of_mem _ (hR.f3 h).2.1,(hR.f3 h).2.2⟩),f6:=(fun _=>⟨rfl,List.mem_cons_self ..,hz⟩),f7:=(fun h=>Bool.noConfusion (hR.g7_6 h)),f8:=(fun h=>Bool.noConfusion (hR.g8_6 h)),f9:=(fun h=>Bool.noConfusion (hR.g9_6 h)),f11:=(fun h=>Bool.noConfusion (hR.g11_6 h)),o0_1:=(fun h=>Bool.noConfusion (hR.g10_6 h)),g6_3:=(fun _=>rfl),g7_6:=(fun _=>rfl),g8_6:=(fun _=>rfl),g9_6:=(fun _=>rfl),g10_6:=(fun _=>rfl),g11_6:=(fun _=>rfl) }⟩
  ·obtain rfl:b7 = false:=by simpa using hl9
   obtain ⟨o9,ho9,hd9⟩:=(mem_ready.1 hi9).2
   cases ho9
   have e0:b0 = true:=hd9 ⟨0,.data⟩ (by simp) rfl
   have e3:b3 = true:=hd9 ⟨3,.data⟩ (by simp) rfl
   have e6:b6 = true:=hd9 ⟨6,.data⟩ (by simp) rfl
   subst e0 e3 e6
   have h9:=hR.f0 rfl
   subst h9
   have q3:=hR.f3 rfl
   obtain ⟨h9,q3m,q3z⟩:=q3
   subst h9
   have q6:=hR.f6 rfl
   obtain ⟨h9,q6m,q6z⟩:=q6
   subst h9
   have hc:=hR.hc
   simp only [cond_true] at hc
   have HR:=hide hR
   clear hR
   refine wpOp_step rfl fun K hK=>?_
   go_simp
   go_wp2_with fail
   refine (W_fracD hc.st (s) A3 A6 N3 N6 C3 C6).mono ?_
   rintro en w9 ⟨⟨s9,b9,k9,l9,b8,k8,l8,r9,rfl,hd9⟩,hs9,hz9⟩
   have hR:=unhide HR
   exact hK _ _ ⟨⟨_,_,_,_,_,_,_,_,_,_,_,_,_,_,_,_,_,_,_,_,_,_,_,A3,N3,C3,M3,E3,A6,N6,C6,M6,E6,_,_,_,_,_,_,_,_,_,_⟩,rfl,rfl,{ hR with hc:=(hc.call hs9 hz9 (fun y hy=>hy)),f7:=(fun _=>⟨rfl,hd9⟩),f8:=(fun h=>Bool.noConfusion (hR.g8_7 h)),f9:=(fun h=>Bool.noConfusion (hR.g9_7 h)),f11:=(fun h=>Bool.noConfusion (hR.g11_7 h)),o0_1:=(fun h=>Bool.noConfusion (hR.g10_7 h)),g7_3:=(fun _=>rfl),g7_6:=(fun _=>rfl),g8_7:=(fun _=>rfl),g9_7:=(fun _=>rfl),g10_7:=(fun _=>rfl),g11_7:=(fun _=>rfl) }⟩
  ·obtain rfl:b8 = false:=by simpa using hl9
   obtain ⟨o9,ho9,hd9⟩:=(mem_ready.1 hi9).2
   cases ho9
   have e7:b7 = true:=hd9 ⟨7,.data⟩ (by simp) rfl
   subst e7
   have q7:=hR.f7 rfl
   obtain ⟨h9,q7m⟩:=q7
   subst h9
   have hc:=hR.hc
   refine wpOp_step rfl fun K hK=>?_
   go_simp
   exact hK _ _ ⟨⟨_,_,_,_,_,_,_,_,_,_,_,_,_,_,_,_,_,_,_,_,_,_,_,A3,N3,C3,M3,E3,A6,N6,C6,M6,E6,Z7,A7,N7,C7,P7,Q7,R7,E7,_,_⟩,rfl,rfl,{ hR with hc:=hc,f8:=(fun _=>rfl),o0_1:=(fun h=>Bool.noConfusion (hR.g10_8 h)),g8_7:=(fun _=>rfl),g8_3:=(fun _=>hR.g7_3 rfl),g8_6:=(fun _=>hR.g7_6 rfl),g10_8:=(fun _=>rfl) }⟩
  ·obtain rfl:b9 = false:=by simpa using hl9
   obtain ⟨o9,ho9,hd9⟩:=(mem_ready.1 hi9).2
   cases ho9
   have e7:b7 = true:=hd9 ⟨7,.data⟩ (by simp) rfl
   subst e7
   have q7:=hR.f7 rfl
   obtain ⟨h9,q7m⟩:=q7
   subst h9
   have hc:=hR.hc
   refine wpOp_step rfl fun K hK=>?_
   go_simp
   exact hK _ _ ⟨⟨_,_,_,_,_,_,_,_,_,_,_,_,_,_,_,_,_,_,_,_,_,_,_,A3,N3,C3,M3,E3,A6,N6,C6,M6,E6,Z7,A7,N7,C7,P7,Q7,R7,E7,_,_⟩,rfl,rfl,{ hR with hc:=hc,f9:=(fun _=>rfl),g9_7:=(fun _=>rfl),g9_3:=(fun _=>hR.g7_3 rfl),g9_6:=(fun _=>hR.g7_6 rfl) }⟩
  ·obtain rfl:b10 = false:=by simpa using hl9
   obtain ⟨o9,ho9,hd9⟩:=(mem_ready.1 hi9).2
   cases ho9
   have e8:b8 = true:=hd9 ⟨8,.data⟩ (by simp) rfl
   subst e8
   obtain rfl:b7 = true:=hR.g8_7 rfl
   have q7:=hR.f7 rfl
   obtain ⟨h9,q7m⟩:=q7
   subst h9
   obtain rfl:b3 = true:=hR.g8_3 rfl
   have q3:=hR.f3 rfl
   obtain ⟨h9,q3m,q3z⟩:=q3
   subst h9
   obtain rfl:b6 = true:=hR.g8_6 rfl
   have q6:=hR.f6 rfl
   obtain ⟨h9,q6m,q6z⟩:=q6
   subst h9
   have h9:=hR.f8 rfl
   subst h9
   have hc:=hR.hc
   have hm9:=hR.o0_0 rfl
   have fz9_0:=hc.st.frozen hm9 0
   have cz9_0:=hc.st.cellAt hm9 0 (.bool false) rfl
   simp only [] at fz9_0 cz9_0
   have fz9_1:=hc.st.frozen hm9 1
   have cz9_1:=hc.st.cellAt hm9 1 (.slice none 0 0) rfl
   simp only [] at fz9_1 cz9_1
   have fz9_2:=hc.st.frozen hm9 2
   have cz9_2:=hc.st.cellAt hm9 2 (.slice none 0 0) rfl
   simp only [] at fz9_2 cz9_2
   have hn9:∀ x,x∈([⟨w4.heap.size,#[.slice yA4 yN4 yC4],27⟩,⟨w.heap.size+1,#[.slice a' n' c'],27⟩,⟨w.heap.size,#[.slice a n c],27⟩]:List En)→x.b≠w.heap.size+1+1:=by intro x hx; rcases List.mem_cons.1 hx with rfl|hx; (simp only []; omega); rcases List.mem_cons.1 hx with rfl|hx; (simp only []; omega); rcases List.mem_cons.1 hx with rfl|hx; (simp only []; omega);  exact absurd hx List.not_mem_nil
   have hw9:w.heap.size≤w.heap.size+1+1:=by omega
   refine wpOp_step rfl fun K hK=>?_
   go_simp
   exact hK _ _ ⟨⟨_,_,_,_,_,_,_,_,_,_,_,_,_,_,_,_,_,_,_,_,_,_,_,A3,N3,C3,M3,E3,A6,N6,C6,M6,E6,Z7,A7,N7,C7,P7,Q7,R7,E7,_,_⟩,rfl,rfl,{ hR with hc:=(((hc.store hm9 hw9 hn9 0 (.bool Z7) (by simp)).store (List.mem_cons_self ..) hw9 hn9 1 (.slice A7 N7 C7) (by simp)).store (List.mem_cons_self ..) hw9 hn9 2 (.slice P7 Q7 R7) (by simp)),o0_0:=(fun h=>Bool.noConfusion h),o0_1:=(fun _=>List.mem_cons_self ..),g10_8:=(fun _=>rfl),g10_7:=(fun _=>rfl),g10_3:=(fun _=>rfl),g10_6:=(fun _=>rfl) }⟩
  ·obtain rfl:b11 = false:=by simpa using hl9
   obtain ⟨o9,ho9,hd9⟩:=(mem_ready.1 hi9).2
   cases ho9
   have e9:b9 = true:=hd9 ⟨9,.data⟩ (by simp) rfl
   subst e9
   obtain rfl:b7 = true:=hR.g9_7 rfl
   have q7:=hR.f7 rfl
   obtain ⟨h9,q7m⟩:=q7
   subst h9
   obtain rfl:b3 = true:=hR.g9_3 rfl
   have q3:=hR.f3 rfl
   obtain ⟨h9,q3m,q3z⟩:=q3
   subst h9
   obtain rfl:b6 = true:=hR.g9_6 rfl
   have q6:=hR.f6 rfl
   obtain ⟨h9,q6m,q6z⟩:=q6
   subst h9
   have h9:=hR.f9 rfl
   subst h9
   have hc:=hR.hc
   refine wpOp_step rfl fun K hK=>?_
   go_simp
   exact hK _ _ ⟨⟨_,_,_,_,_,_,_,_,_,_,_,_,_,_,_,_,_,_,_,_,_,_,_,A3,N3,C3,M3,E3,A6,N6,C6,M6,E6,Z7,A7,N7,C7,P7,Q7,R7,E7,_,_⟩,rfl,rfl,{ hR with hc:=hc,f11:=(fun _=>rfl),g11_7:=(fun _=>rfl),g11_3:=(fun _=>rfl),g11_6:=(fun _=>rfl) }⟩
 ·rintro l act Wq5 ⟨⟨b0,b1,b2,b3,b4,b5,b6,b7,b8,b9,b10,b11,v0,v1,v2,v3,v4,v5,v6,v7,v8,v9,v11,x5_A3,x5_N3,x5_C3,x5_M3,x5_E3,x5_A6,x5_N6,x5_C6,x5_M6,x5_E6,x5_Z7,x5_A7,x5_N7,x5_C7,x5_P7,x5_Q7,x5_R7,x5_E7,bs9,os9⟩,rfl,rfl,hR⟩ hr9
  obtain ⟨hc,f0,f1,f2,f3,f4,f5,f6,f7,f8,f9,f11,o0_0,o0_1,g6_3,g7_3,g7_6,g8_7,g8_3,g8_6,g9_7,g9_3,g9_6,g10_8,g10_7,g10_3,g10_6,g11_7,g11_3,g11_6⟩:=hR
  have eall:=all_done hr9 (by kernel_rfl) rfl
  obtain rfl:b0 = true:=eall 0 (by decide)
  obtain rfl:b1 = true:=eall 1 (by decide)
  obtain rfl:b2 = true:=eall 2 (by decide)
  obtain rfl:b3 = true:=eall 3 (by decide)
  obtain rfl:b4 = true:=eall 4 (by decide)
  obtain rfl:b5 = true:=eall 5 (by decide)
  obtain rfl:b6 = true:=eall 6 (by decide)
  obtain rfl:b7 = true:=eall 7 (by decide)
  obtain rfl:b8 = true:=eall 8 (by decide)
  obtain rfl:b9 = true:=eall 9 (by decide)
  obtain rfl:b10 = true:=eall 10 (by decide)
  obtain rfl:b11 = true:=eall 11 (by decide)
  clear hr9 eall
  have h9:=f0 rfl
  subst h9
  have h9:=f1 rfl
  subst h9
  have h9:=f2 rfl
  subst h9
  obtain ⟨h9,q3m,qx5_3⟩:=f3 rfl
  subst h9
  have h9:=f4 rfl
  subst h9
  have h9:=f5 rfl
  subst h9
  obtain ⟨h9,q6m,qx5_6⟩:=f6 rfl
  subst h9
  obtain ⟨h9,qx5_7⟩:=f7 rfl
  subst h9
  have h9:=f8 rfl
  subst h9
  have h9:=f9 rfl
  subst h9
  have h9:=f11 rfl
  subst h9
  simp only [cond_true] at hc
  have hbs9:∀ x,x∈([⟨w.heap.size+1+1,#[.bool x5_Z7,.slice x5_A7 x5_N7 x5_C7,.slice x5_P7 x5_Q7 x5_R7],29⟩,⟨w4.heap.size,#[.slice yA4 yN4 yC4],27⟩,⟨w.heap.size+1,#[.slice a' n' c'],27⟩,⟨w.heap.size,#[.slice a n c],27⟩]:List En)→x∈bs9:=by
   intro x hx
   rcases List.mem_cons.1 hx with rfl|hx
   ·exact (o0_1 rfl)
   rcases List.mem_cons.1 hx with rfl|hx
   ·exact (hc.old _ (by simp)).1
   rcases List.mem_cons.1 hx with rfl|hx
   ·exact (hc.old _ (by simp)).1
   rcases List.mem_cons.1 hx with rfl|hx
   ·exact (hc.old _ (by simp)).1
   exact absurd hx List.not_mem_nil
  have hos9:∀ x,x∈([(x5_A3,x5_N3,x5_C3,x5_M3),(x5_A6,x5_N6,x5_C6,x5_M6),(yA4,yN4,yC4,yM4)]:Os)→x∈os9:=by
   intro x hx
   rcases List.mem_cons.1 hx with rfl|hx
   ·exact q3m
   rcases List.mem_cons.1 hx with rfl|hx
   ·exact q6m
   rcases List.mem_cons.1 hx with rfl|hx
   ·exact hc.oso _ (by simp)
   exact absurd hx List.not_mem_nil
  have hS:=hc.st.sub hbs9 (fun x hx=>hx) hos9
  have hsz9:=hc.sz
  rw [hS9z,hsW9] at hsz9
  clear hbs9 hos9 hc f0 f1 f2 f3 f4 f5 f6 f7 f8 f9 f11 o0_0 o0_1 g6_3 g7_3 g7_6 g8_7 g8_3 g8_6 g9_7 g9_3 g9_6 g10_8 g10_7 g10_3 g10_6 g11_7 g11_3 g11_6
  clear q3m q6m
  have hz5:=hsz9
  clear hsz9 hS9z hS9 hC9 hsW9
  have Qx5_3:=hide qx5_3
  clear qx5_3
  have Qx5_6:=hide qx5_6
  clear qx5_6
  have Qx5_7:=hide qx5_7
  clear qx5_7
  obtain ⟨⟨k0_0,k0_1,k0_2,-⟩,z0⟩:=hS.cz ⟨w.heap.size+1+1,#[.bool x5_Z7,.slice x5_A7 x5_N7 x5_C7,.slice x5_P7 x5_Q7 x5_R7],29⟩ (by simp)
  have z0_0:=z0 0
  have z0_1:=z0 1
  have z0_2:=z0 2
  clear z0
  simp only [] at k0_0 z0_0 k0_1 z0_1 k0_2 z0_2
  go_wp2
  have hend:=make_end hd (unhide Q4) (unhide Qx5_3) (unhide Qx5_6)
  have q7:=unhide Qx5_7
  have o1:=hS.ow (x5_A3,x5_N3,x5_C3,x5_M3) (by simp)
  have o2:=hS.ow (x5_A6,x5_N6,x5_C6,x5_M6) (by simp)
  have hbel:=But.gr (B:=w.heap.size) (gr_refl w) hS.fr (by omega) (Nat.le_refl _)
  refine bodyPost_ret (v:=.tuple #[.agg #[.bool x5_Z7,.slice x5_A7 x5_N7 x5_C7,.slice x5_P7 x5_Q7 x5_R7],.int .i64 x5_E7]) (by simp [results,Tryz.results9,go_sem,k0_0,k0_1,k0_2]) rfl ⟨?_,hbel⟩
  rcases q7 with ⟨h0,e1,e2,e3,e4,e5,e6,e7,e8⟩|⟨h0,e1,e2,e3,e4,e5,e6,e7,e8⟩
  ·obtain ⟨f1,f2⟩:=hend.1 h0
   have hz1:=o1.num.zero
   simp only [] at o1 o2 hz1
   rw [f1] at o1 hz1
   rw [f2] at o2
   rw [e1,e2,e3,e4,e5,e6,e7,e8]
   refine Or.inl ⟨_,_,_,_,_,_,?_,o1,o2⟩
   rw [show decide (x5_N3 = 0) = decide (_ = 0) from decide_eq_decide.2 hz1]
   all_goals rfl
  ·exact absurd (hend.2) h0
 ·simp
 ·exact ⟨⟨false,false,false,false,false,false,false,false,false,false,false,false,undef,undef,undef,undef,undef,undef,undef,undef,undef,undef,.int .i64 0,none,0,0,0,0,none,0,0,0,0,false,none,0,0,none,0,0,0,_,_⟩,rfl,rfl,⟨hC9,nb,nb,nb,nb,nb,nb,nb,nb,nb,nb,nb,(fun _=>by simp),nb,nb,nb,nb,nb,nb,nb,nb,nb,nb,nb,nb,nb,nb,nb,nb,nb⟩⟩
theorem make_rat (s:Bool) (a a':Option Addr) (n n' c c' m d:Nat) (w:World) (h1:Num w a n m) (h2:Num w a' n' d) (hd:0 < d) :
  Calls Tryz.prog 9 #[.bool s,.agg #[.slice a n c],.agg #[.slice a' n' c']] w fun en w'=>ROk w' w.heap.size en (mkRat (Rm.sgn s m) d)∧Below w.heap.size w w':=by
 refine (make_any s a a' n n' c c' m d w h1 h2 hd).mono ?_
 rintro en w' ⟨h,hb⟩
 exact ⟨h.ok (Rm.Q.made (by omega)),hb⟩
end Go.Proofs.YtfhmbnnlcjdblaaGreat
