/- Of what RoundIntegerRow stands on: RzTog. -/
import Derived.Test.YtfjegmlpkiaifaaGreatDoorPbl
namespace Go.Proofs.YtfjegmlpkiaifaaGreatDoor
open Go.RowKit
set_option maxHeartbeats 4000000
set_option maxRecDepth 20000
def c5 (B m1 m2 m3 m4 m5:Nat) (b:Bool):Cf:=⟨fun q=>.agg #[.slice q.A q.N q.C,.slice q.A' q.N' q.C',.slice q.A2 q.N2 q.C2,.slice q.A3 q.N3 q.C3,.slice q.A4 q.N4 q.C4,.bool b],fun q W=>Mine W B q.A q.N q.C m1∧Mine W B q.A' q.N' q.C' m2∧Mine W B q.A2 q.N2 q.C2 m3∧Mine W B q.A3 q.N3 q.C3 m4∧Mine W B q.A4 q.N4 q.C4 m5,fun _=>sta_and (sta_mine _ _ _ _ _) (sta_and (sta_mine _ _ _ _ _) (sta_and (sta_mine _ _ _ _ _) (sta_and (sta_mine _ _ _ _ _) (sta_mine _ _ _ _ _))))⟩
theorem as_5 {P:Program} {fn:FuncId} {args:Array Value} {W:World} {B m1 m2 m3 m4 m5:Nat} {b:Bool} (hb:B≤W.heap.size) (h:Calls P fn args W fun en W'=>(∃ A N C A' N' C' A2 N2 C2 A3 N3 C3 A4 N4 C4,en = .returned (.agg #[.slice A N C,.slice A' N' C',.slice A2 N2 C2,.slice A3 N3 C3,.slice A4 N4 C4,.bool b])∧Mine W' W.heap.size A N C m1∧Mine W' W.heap.size A' N' C' m2∧Mine W' W.heap.size A2 N2 C2 m3∧Mine W' W.heap.size A3 N3 C3 m4∧Mine W' W.heap.size A4 N4 C4 m5)∧Below W.heap.size W W'):Calls P fn args W fun en W'=>∃ q,en = .returned ((c5 B m1 m2 m3 m4 m5 b).f q)∧Below W.heap.size W W'∧(c5 B m1 m2 m3 m4 m5 b).g q W':=
 h.mono fun _ _ ⟨⟨a,n,c,a',n',c',a2,n2,c2,a3,n3,c3,a4,n4,c4,h1,k1,k2,k3,k4,k5⟩,h2⟩=>⟨{ pq0 with A:=a,N:=n,C:=c,A':=a',N':=n',C':=c',A2:=a2,N2:=n2,C2:=c2,A3:=a3,N3:=n3,C3:=c3,A4:=a4,N4:=n4,C4:=c4 },h1,h2,k1.mono hb,k2.mono hb,k3.mono hb,k4.mono hb,k5.mono hb⟩
def WSpl (p:Nat) (s t:Bool) (m1 d1 m2 d2 wa wb pa pb dn:Nat) (b:Bool):Prop:=∀ (W:World) (a1:Option Addr) (n1 c1:Nat) (a2:Option Addr) (n2 c2:Nat) (a3:Option Addr) (n3 c3:Nat) (a4:Option Addr) (n4 c4:Nat),Rz W p 0→Num W a1 n1 m1→Num W a2 n2 d1→Num W a3 n3 m2→Num W a4 n4 d2→Calls Tryz.prog 139 #[.pointer (some ⟨p,0,none⟩),.agg #[.bool s,.slice a1 n1 c1,.slice a2 n2 c2,.bool t,.slice a3 n3 c3,.slice a4 n4 c4]] W fun en W'=>(∃ A N C A' N' C' A2 N2 C2 A3 N3 C3 A4 N4 C4,en = .returned (.agg #[.slice A N C,.slice A' N' C',.slice A2 N2 C2,.slice A3 N3 C3,.slice A4 N4 C4,.bool b])∧Mine W' W.heap.size A N C wa∧Mine W' W.heap.size A' N' C' wb∧Mine W' W.heap.size A2 N2 C2 pa∧Mine W' W.heap.size A3 N3 C3 pb∧Mine W' W.heap.size A4 N4 C4 dn)∧Below W.heap.size W W'
def WFr (p:Nat) (s:Bool) (x y:Nat) (g:Bool):Prop:=∀ (W:World) (a:Option Addr) (n c:Nat) (a':Option Addr) (n' c':Nat),Rz W p 0→Num W a n x→Num W a' n' y→Calls Tryz.prog 46 #[.pointer (some ⟨p,0,none⟩),.bool s,.agg #[.slice a n c],.agg #[.slice a' n' c']] W fun en W'=>en = .returned (.tuple #[.agg #[.bool g,.slice a n c,.slice a' n' c'],.int .i64 0])∧Below W.heap.size W W'
theorem ztog_t (w:World) (p:Nat) (a1 a2 a3 a4:Option Addr) (n1 n2 n3 n4 c1 c2 c3 c4 m1 d1 m2 d2:Nat) (s g:Bool) (wa wb pa pb dn u v x y z:Nat) (hR:Rz w p 0) (h1:Num w a1 n1 m1) (h2:Num w a2 n2 d1) (h3:Num w a3 n3 m2) (h4:Num w a4 n4 d2) (HS:Hid (WSpl p s s m1 d1 m2 d2 wa wb pa pb dn true)) (H1:Hid (WTwo 135 p pa pb u)) (H2:Hid (WTwo 135 p u 1 v)) (H3:Hid (WTwo 135 p wa wb x)) (H4:Hid (WTwo 62 p x dn y)) (H5:Hid (WTwo 135 p v y z)) (HF:Hid (WFr p s z dn g))  :
  Calls Tryz.prog 114 #[.pointer (some ⟨p,0,none⟩),.agg #[.bool s,.slice a1 n1 c1,.slice a2 n2 c2,.bool s,.slice a3 n3 c3,.slice a4 n4 c4]] w fun en w'=>(∃ A N C A' N' C',en = .returned (.tuple #[.agg #[.bool g,.slice A N C,.slice A' N' C'],.int .i64 0])∧Mine w' w.heap.size A N C z∧Mine w' w.heap.size A' N' C' dn)∧Below w.heap.size w w':=by
 obtain ⟨cs9,t9_,hp,hp0⟩:=hR
 refine calls_sym Tryz.func114 rfl (by kernel_rfl) fun T hK=>?_
 replace hK:Kn T _ [(0,.pointer (some ⟨p,0,none⟩)),(1,.agg #[.bool s,.slice a1 n1 c1,.slice a2 n2 c2,.bool s,.slice a3 n3 c3,.slice a4 n4 c4])]:=hK
 have hS:=Fb.other hp
 have hG:GsAt [gN a1 n1 m1,gN a2 n2 d1,gN a3 n3 m2,gN a4 n4 d2] w:=⟨h1,h2,h3,h4,trivial⟩
 refine wq hS hG hK (fun p1=>[.n 3 #[.bool s,.slice a1 n1 c1,.slice a2 n2 c2,.bool s,.slice a3 n3 c3,.slice a4 n4 c4] 67,.n 4 #[.bool false,.slice none 0 0,.slice none 0 0] 28,.v 5 (.int .i64 0)]) (fun p1=>[(0,.pointer (some ⟨p,0,none⟩)),(3,pT (p1 0).N 0),(4,pT (p1 1).N 0),(5,.int .i64 0)]) (fun p1=>?_) (fun p1 W1 T hF hK=>?_)
 ·iterate 2 refine okn ?_
  refine okv ?_
  exact ok_nil
 replace hS:=SymF.fc hS hF [0,1000,1001] [⟨p,cs9,t9_,false⟩,⟨(p1 0).N,#[.bool s,.slice a1 n1 c1,.slice a2 n2 c2,.bool s,.slice a3 n3 c3,.slice a4 n4 c4],67,true⟩,⟨(p1 1).N,#[.bool false,.slice none 0 0,.slice none 0 0],28,true⟩]
 replace hG:=hF.gx
 clear hF
 have z1:=hS.fr.size
 refine wq hS hG hK (fun p2=>[.v 8 (.pointer (some ⟨p,0,none⟩)),.l 9 (.agg #[.bool s,.slice a1 n1 c1,.slice a2 n2 c2,.bool s,.slice a3 n3 c3,.slice a4 n4 c4]) 1 0,.c (some 10) (c5 W1.heap.size wa wb pa pb dn true),.n 6 #[.slice none 0 0,.slice none 0 0,.slice none 0 0,.slice none 0 0,.slice none 0 0,.bool false] 190,.p 1003 0 [.slice (p2 2).A (p2 2).N (p2 2).C,.slice (p2 2).A' (p2 2).N' (p2 2).C',.slice (p2 2).A2 (p2 2).N2 (p2 2).C2,.slice (p2 2).A3 (p2 2).N3 (p2 2).C3,.slice (p2 2).A4 (p2 2).N4 (p2 2).C4,.bool true]]) (fun p2=>[(0,.pointer (some ⟨p,0,none⟩)),(3,pT (p1 0).N 0),(4,pT (p1 1).N 0),(5,.int .i64 0),(6,pT (p2 3).N 0)]) (fun p2=>?_) (fun p2 W2 T hF hK=>?_)
 ·refine okv ?_
  refine okl ?_
  refine okc (fun W cx=>as_5 cx.hb (unhide HS _ _ _ c1 _ _ c2 _ _ c3 _ _ c4 ⟨_,_,cx.B 0 _ rfl (by kernel_rfl) (by kernel_rfl),hp0⟩ (cx.G.1) (cx.G.2.1) (cx.G.2.2.1) (cx.G.2.2.2.1))) ?_
  refine okn ?_
  refine okp ?_
  exact ok_nil
 replace hS:=SymF.fc hS hF [0,1,2,1003] [⟨p,cs9,t9_,false⟩,⟨(p1 0).N,#[.bool s,.slice a1 n1 c1,.slice a2 n2 c2,.bool s,.slice a3 n3 c3,.slice a4 n4 c4],67,true⟩,⟨(p1 1).N,#[.bool false,.slice none 0 0,.slice none 0 0],28,true⟩,⟨(p2 3).N,#[.slice (p2 2).A (p2 2).N (p2 2).C,.slice (p2 2).A' (p2 2).N' (p2 2).C',.slice (p2 2).A2 (p2 2).N2 (p2 2).C2,.slice (p2 2).A3 (p2 2).N3 (p2 2).C3,.slice (p2 2).A4 (p2 2).N4 (p2 2).C4,.bool true],190,true⟩]
 replace hG:GsAt (gM W1.heap.size (p2 2).A (p2 2).N (p2 2).C wa :: gM W1.heap.size (p2 2).A' (p2 2).N' (p2 2).C' wb :: gM W1.heap.size (p2 2).A2 (p2 2).N2 (p2 2).C2 pa :: gM W1.heap.size (p2 2).A3 (p2 2).N3 (p2 2).C3 pb :: gM W1.heap.size (p2 2).A4 (p2 2).N4 (p2 2).C4 dn :: _) W2:=⟨(hF.fx 2).1,(hF.fx 2).2.1,(hF.fx 2).2.2.1,(hF.fx 2).2.2.2.1,(hF.fx 2).2.2.2.2,hF.gx⟩
 clear hF
 refine wq hS hG hK (fun p3=>[.v 11 (.pointer (some ⟨p,0,none⟩)),.v 12 (pT (p2 3).N 2),.l 13 (.agg #[.slice (p2 2).A2 (p2 2).N2 (p2 2).C2]) 3 2,.v 14 (pT (p2 3).N 3),.l 15 (.agg #[.slice (p2 2).A3 (p2 2).N3 (p2 2).C3]) 3 3,.c (some 16) (cN W2.heap.size u),.n 7 #[.slice none 0 0] 26,.p 1006 0 [.slice (p3 5).A (p3 5).N (p3 5).C]]) (fun p3=>[(0,.pointer (some ⟨p,0,none⟩)),(3,pT (p1 0).N 0),(4,pT (p1 1).N 0),(5,.int .i64 0),(6,pT (p2 3).N 0),(7,pT (p3 6).N 0)]) (fun p3=>?_) (fun p3 W3 T hF hK=>?_)
 ·iterate 2 refine okv ?_
  refine okl ?_
  refine okv ?_
  refine okl ?_
  refine okc (fun W cx=>as_n cx.hb (unhide H1 _ _ _ (p2 2).C2 _ _ (p2 2).C3 ⟨_,_,cx.B 0 _ rfl (by kernel_rfl) (by kernel_rfl),hp0⟩ (Mine.num cx.G.2.2.1) (Mine.num cx.G.2.2.2.1))) ?_
  refine okn ?_
  refine okp ?_
  exact ok_nil
 replace hS:=SymF.fc hS hF [0,1,2,3,1006] [⟨p,cs9,t9_,false⟩,⟨(p1 0).N,#[.bool s,.slice a1 n1 c1,.slice a2 n2 c2,.bool s,.slice a3 n3 c3,.slice a4 n4 c4],67,true⟩,⟨(p1 1).N,#[.bool false,.slice none 0 0,.slice none 0 0],28,true⟩,⟨(p2 3).N,#[.slice (p2 2).A (p2 2).N (p2 2).C,.slice (p2 2).A' (p2 2).N' (p2 2).C',.slice (p2 2).A2 (p2 2).N2 (p2 2).C2,.slice (p2 2).A3 (p2 2).N3 (p2 2).C3,.slice (p2 2).A4 (p2 2).N4 (p2 2).C4,.bool true],190,true⟩,⟨(p3 6).N,#[.slice (p3 5).A (p3 5).N (p3 5).C],26,true⟩]
 replace hG:GsAt (gM W2.heap.size (p3 5).A (p3 5).N (p3 5).C u :: _) W3:=⟨hF.fx 5,hF.gx⟩
 clear hF
 refine wp_seq ?_
 refine wq hS hG hK (fun p4=>[.v 17 (pT (p2 3).N 5),.l 18 (.bool true) 3 5]) (fun p4=>[(0,.pointer (some ⟨p,0,none⟩)),(3,pT (p1 0).N 0),(4,pT (p1 1).N 0),(5,.int .i64 0),(6,pT (p2 3).N 0),(7,pT (p3 6).N 0),(18,.bool true)]) (fun p4=>?_) (fun p4 W4 T hF hK=>?_)
 ·refine okv ?_
  refine okl ?_
  exact ok_nil
 obtain ⟨hS,hG⟩:=SymF.fg hS hF
 clear hF
 refine wp_cond_true (hK.ew 18) ?_
 refine wg hS hG hK (fun p5=>[.v 19 (.pointer (some ⟨p,0,none⟩)),.l 20 (.agg #[.slice (p3 5).A (p3 5).N (p3 5).C]) 4 0,.c (some 21) (cN W4.heap.size 1),.c (some 22) (cN W4.heap.size v),.p 4 0 [.slice (p5 3).A (p5 3).N (p5 3).C]]) (fun p5=>[(0,.pointer (some ⟨p,0,none⟩)),(3,pT (p1 0).N 0),(4,pT (p1 1).N 0),(5,.int .i64 0),(6,pT (p2 3).N 0),(7,pT (p3 6).N 0)]) (fun p5=>?_) (fun p5 W5 T hF hK=>?_)
 ·refine okv ?_
  refine okl ?_
  refine okc (fun W cx=>as_n cx.hb (of_any 1 _ (by decide))) ?_
  refine okc (fun W cx=>as_n cx.hb (unhide H2 _ _ _ (p3 5).C _ _ (p5 2).C ⟨_,_,cx.B 0 _ rfl (by kernel_rfl) (by kernel_rfl),hp0⟩ (Mine.num cx.G.1) (Mine.num (cx.F 2 (by kernel_rfl))))) ?_
  refine okp ?_
  exact ok_nil
 replace hS:=SymF.fc hS hF [0,1,2,3,4] [⟨p,cs9,t9_,false⟩,⟨(p1 0).N,#[.bool s,.slice a1 n1 c1,.slice a2 n2 c2,.bool s,.slice a3 n3 c3,.slice a4 n4 c4],67,true⟩,⟨(p1 1).N,#[.bool false,.slice none 0 0,.slice none 0 0],28,true⟩,⟨(p2 3).N,#[.slice (p2 2).A (p2 2).N (p2 2).C,.slice (p2 2).A' (p2 2).N' (p2 2).C',.slice (p2 2).A2 (p2 2).N2 (p2 2).C2,.slice (p2 2).A3 (p2 2).N3 (p2 2).C3,.slice (p2 2).A4 (p2 2).N4 (p2 2).C4,.bool true],190,true⟩,⟨(p3 6).N,#[.slice (p5 3).A (p5 3).N (p5 3).C],26,true⟩]
 replace hG:GsAt (gM W4.heap.size (p5 2).A (p5 2).N (p5 2).C 1 :: gM W4.heap.size (p5 3).A (p5 3).N (p5 3).C v :: _) W5:=⟨hF.fx 2,hF.fx 3,hF.gx⟩
 clear hF
 have z5:=hS.fr.size
 refine then_n ?_
 refine wq hS hG hK (fun p6=>[.v 23 (.pointer (some ⟨p,0,none⟩)),.l 24 (.agg #[.slice (p5 3).A (p5 3).N (p5 3).C]) 4 0,.v 25 (.pointer (some ⟨p,0,none⟩)),.v 26 (.pointer (some ⟨p,0,none⟩)),.v 27 (pT (p2 3).N 0),.l 28 (.agg #[.slice (p2 2).A (p2 2).N (p2 2).C]) 3 0,.v 29 (pT (p2 3).N 1),.l 30 (.agg #[.slice (p2 2).A' (p2 2).N' (p2 2).C']) 3 1,.c (some 31) (cN W5.heap.size x),.v 32 (pT (p2 3).N 4),.l 33 (.agg #[.slice (p2 2).A4 (p2 2).N4 (p2 2).C4]) 3 4,.c (some 34) (cN W5.heap.size y),.c (some 35) (cN W5.heap.size z),.p 4 0 [.slice (p6 12).A (p6 12).N (p6 12).C]]) (fun p6=>[(0,.pointer (some ⟨p,0,none⟩)),(3,pT (p1 0).N 0),(4,pT (p1 1).N 0),(5,.int .i64 0),(6,pT (p2 3).N 0),(7,pT (p3 6).N 0)]) (fun p6=>?_) (fun p6 W6 T hF hK=>?_)
 ·refine okv ?_
  refine okl ?_
  iterate 3 refine okv ?_
  refine okl ?_
  refine okv ?_
  refine okl ?_
  refine okc (fun W cx=>as_n cx.hb (unhide H3 _ _ _ (p2 2).C _ _ (p2 2).C' ⟨_,_,cx.B 0 _ rfl (by kernel_rfl) (by kernel_rfl),hp0⟩ (Mine.num cx.G.2.2.2.1) (Mine.num cx.G.2.2.2.2.1))) ?_
  refine okv ?_
  refine okl ?_
  refine okc (fun W cx=>as_n cx.hb (unhide H4 _ _ _ (p6 8).C _ _ (p2 2).C4 ⟨_,_,cx.B 0 _ rfl (by kernel_rfl) (by kernel_rfl),hp0⟩ (Mine.num (cx.F 8 (by kernel_rfl))) (Mine.num cx.G.2.2.2.2.2.2.2.1))) ?_
  refine okc (fun W cx=>as_n cx.hb (unhide H5 _ _ _ (p5 3).C _ _ (p6 11).C ⟨_,_,cx.B 0 _ rfl (by kernel_rfl) (by kernel_rfl),hp0⟩ (Mine.num cx.G.2.1) (Mine.num (cx.F 11 (by kernel_rfl))))) ?_
  refine okp ?_
  exact ok_nil
 replace hS:=SymF.fc hS hF [0,1,2,3,4] [⟨p,cs9,t9_,false⟩,⟨(p1 0).N,#[.bool s,.slice a1 n1 c1,.slice a2 n2 c2,.bool s,.slice a3 n3 c3,.slice a4 n4 c4],67,true⟩,⟨(p1 1).N,#[.bool false,.slice none 0 0,.slice none 0 0],28,true⟩,⟨(p2 3).N,#[.slice (p2 2).A (p2 2).N (p2 2).C,.slice (p2 2).A' (p2 2).N' (p2 2).C',.slice (p2 2).A2 (p2 2).N2 (p2 2).C2,.slice (p2 2).A3 (p2 2).N3 (p2 2).C3,.slice (p2 2).A4 (p2 2).N4 (p2 2).C4,.bool true],190,true⟩,⟨(p3 6).N,#[.slice (p6 12).A (p6 12).N (p6 12).C],26,true⟩]
 replace hG:GsAt (gM W5.heap.size (p6 8).A (p6 8).N (p6 8).C x :: gM W5.heap.size (p6 11).A (p6 11).N (p6 11).C y :: gM W5.heap.size (p6 12).A (p6 12).N (p6 12).C z :: _) W6:=⟨hF.fx 8,hF.fx 11,hF.fx 12,hF.gx⟩
 clear hF
 refine wq hS hG hK (fun p7=>[.v 36 (.pointer (some ⟨p,0,none⟩)),.v 37 (pT (p1 0).N 0),.v 38 (pT (p1 0).N 0),.l 39 (.bool s) 1 0,.l 40 (.agg #[.slice (p6 12).A (p6 12).N (p6 12).C]) 4 0,.v 41 (pT (p2 3).N 4),.l 42 (.agg #[.slice (p2 2).A4 (p2 2).N4 (p2 2).C4]) 3 4,.c (some 43) (cV (.tuple #[.agg #[.bool g,.slice (p6 12).A (p6 12).N (p6 12).C,.slice (p2 2).A4 (p2 2).N4 (p2 2).C4],.int .i64 0])),.v 44 (.agg #[.bool g,.slice (p6 12).A (p6 12).N (p6 12).C,.slice (p2 2).A4 (p2 2).N4 (p2 2).C4]),.v 45 (.int .i64 0),.p 2 0 [.bool g,.slice (p6 12).A (p6 12).N (p6 12).C,.slice (p2 2).A4 (p2 2).N4 (p2 2).C4],.v 5 (.int .i64 0)]) (fun p7=>[(4,pT (p1 1).N 0),(5,.int .i64 0)]) (fun p7=>?_) (fun p7 W7 T hF hK=>?_)
 ·iterate 3 refine okv ?_
  iterate 2 refine okl ?_
  refine okv ?_
  refine okl ?_
  refine okc (fun W cx=>as_v (unhide HF _ _ _ (p6 12).C _ _ (p2 2).C4 ⟨_,_,cx.B 0 _ rfl (by kernel_rfl) (by kernel_rfl),hp0⟩ (Mine.num cx.G.2.2.1) (Mine.num cx.G.2.2.2.2.2.2.2.2.2.2.1))) ?_
  iterate 2 refine okv ?_
  refine okp ?_
  refine okv ?_
  exact ok_nil
 replace hS:=SymF.fc hS hF [0,2] [⟨p,cs9,t9_,false⟩,⟨(p1 1).N,#[.bool g,.slice (p6 12).A (p6 12).N (p6 12).C,.slice (p2 2).A4 (p2 2).N4 (p2 2).C4],28,true⟩]
 replace hG:=hF.gx
 clear hF
 refine wp_ret ?_
 exact sym_end hS hK (.tuple #[.agg #[.bool g,.slice (p6 12).A (p6 12).N (p6 12).C,.slice (p2 2).A4 (p2 2).N4 (p2 2).C4],.int .i64 0]) [(1,0,3)] [.bool g,.slice (p6 12).A (p6 12).N (p6 12).C,.slice (p2 2).A4 (p2 2).N4 (p2 2).C4] (by kernel_rfl) (by kernel_rfl) ⟨⟨_,_,_,_,_,_,rfl,Mine.mono hG.2.2.1 z5,Mine.mono hG.2.2.2.2.2.2.2.2.2.2.1 z1⟩,hS.fr⟩
theorem ztog_f (w:World) (p:Nat) (a1 a2 a3 a4:Option Addr) (n1 n2 n3 n4 c1 c2 c3 c4 m1 d1 m2 d2:Nat) (s g:Bool) (wa wb pa pb dn u x y z:Nat) (hR:Rz w p 0) (h1:Num w a1 n1 m1) (h2:Num w a2 n2 d1) (h3:Num w a3 n3 m2) (h4:Num w a4 n4 d2) (HS:Hid (WSpl p s s m1 d1 m2 d2 wa wb pa pb dn false)) (H1:Hid (WTwo 135 p pa pb u)) (H3:Hid (WTwo 135 p wa wb x)) (H4:Hid (WTwo 62 p x dn y)) (H5:Hid (WTwo 135 p u y z)) (HF:Hid (WFr p s z dn g))  :
  Calls Tryz.prog 114 #[.pointer (some ⟨p,0,none⟩),.agg #[.bool s,.slice a1 n1 c1,.slice a2 n2 c2,.bool s,.slice a3 n3 c3,.slice a4 n4 c4]] w fun en w'=>(∃ A N C A' N' C',en = .returned (.tuple #[.agg #[.bool g,.slice A N C,.slice A' N' C'],.int .i64 0])∧Mine w' w.heap.size A N C z∧Mine w' w.heap.size A' N' C' dn)∧Below w.heap.size w w':=by
 obtain ⟨cs9,t9_,hp,hp0⟩:=hR
 refine calls_sym Tryz.func114 rfl (by kernel_rfl) fun T hK=>?_
 replace hK:Kn T _ [(0,.pointer (some ⟨p,0,none⟩)),(1,.agg #[.bool s,.slice a1 n1 c1,.slice a2 n2 c2,.bool s,.slice a3 n3 c3,.slice a4 n4 c4])]:=hK
 have hS:=Fb.other hp
 have hG:GsAt [gN a1 n1 m1,gN a2 n2 d1,gN a3 n3 m2,gN a4 n4 d2] w:=⟨h1,h2,h3,h4,trivial⟩
 refine wq hS hG hK (fun p1=>[.n 3 #[.bool s,.slice a1 n1 c1,.slice a2 n2 c2,.bool s,.slice a3 n3 c3,.slice a4 n4 c4] 67,.n 4 #[.bool false,.slice none 0 0,.slice none 0 0] 28,.v 5 (.int .i64 0)]) (fun p1=>[(0,.pointer (some ⟨p,0,none⟩)),(3,pT (p1 0).N 0),(4,pT (p1 1).N 0),(5,.int .i64 0)]) (fun p1=>?_) (fun p1 W1 T hF hK=>?_)
 ·iterate 2 refine okn ?_
  refine okv ?_
  exact ok_nil
 replace hS:=SymF.fc hS hF [0,1000,1001] [⟨p,cs9,t9_,false⟩,⟨(p1 0).N,#[.bool s,.slice a1 n1 c1,.slice a2 n2 c2,.bool s,.slice a3 n3 c3,.slice a4 n4 c4],67,true⟩,⟨(p1 1).N,#[.bool false,.slice none 0 0,.slice none 0 0],28,true⟩]
 replace hG:=hF.gx
 clear hF
 have z1:=hS.fr.size
 refine wq hS hG hK (fun p2=>[.v 8 (.pointer (some ⟨p,0,none⟩)),.l 9 (.agg #[.bool s,.slice a1 n1 c1,.slice a2 n2 c2,.bool s,.slice a3 n3 c3,.slice a4 n4 c4]) 1 0,.c (some 10) (c5 W1.heap.size wa wb pa pb dn false),.n 6 #[.slice none 0 0,.slice none 0 0,.slice none 0 0,.slice none 0 0,.slice none 0 0,.bool false] 190,.p 1003 0 [.slice (p2 2).A (p2 2).N (p2 2).C,.slice (p2 2).A' (p2 2).N' (p2 2).C',.slice (p2 2).A2 (p2 2).N2 (p2 2).C2,.slice (p2 2).A3 (p2 2).N3 (p2 2).C3,.slice (p2 2).A4 (p2 2).N4 (p2 2).C4,.bool false]]) (fun p2=>[(0,.pointer (some ⟨p,0,none⟩)),(3,pT (p1 0).N 0),(4,pT (p1 1).N 0),(5,.int .i64 0),(6,pT (p2 3).N 0)]) (fun p2=>?_) (fun p2 W2 T hF hK=>?_)
 ·refine okv ?_
  refine okl ?_
  refine okc (fun W cx=>as_5 cx.hb (unhide HS _ _ _ c1 _ _ c2 _ _ c3 _ _ c4 ⟨_,_,cx.B 0 _ rfl (by kernel_rfl) (by kernel_rfl),hp0⟩ (cx.G.1) (cx.G.2.1) (cx.G.2.2.1) (cx.G.2.2.2.1))) ?_
  refine okn ?_
  refine okp ?_
  exact ok_nil
 replace hS:=SymF.fc hS hF [0,1,2,1003] [⟨p,cs9,t9_,false⟩,⟨(p1 0).N,#[.bool s,.slice a1 n1 c1,.slice a2 n2 c2,.bool s,.slice a3 n3 c3,.slice a4 n4 c4],67,true⟩,⟨(p1 1).N,#[.bool false,.slice none 0 0,.slice none 0 0],28,true⟩,⟨(p2 3).N,#[.slice (p2 2).A (p2 2).N (p2 2).C,.slice (p2 2).A' (p2 2).N' (p2 2).C',.slice (p2 2).A2 (p2 2).N2 (p2 2).C2,.slice (p2 2).A3 (p2 2).N3 (p2 2).C3,.slice (p2 2).A4 (p2 2).N4 (p2 2).C4,.bool false],190,true⟩]
 replace hG:GsAt (gM W1.heap.size (p2 2).A (p2 2).N (p2 2).C wa :: gM W1.heap.size (p2 2).A' (p2 2).N' (p2 2).C' wb :: gM W1.heap.size (p2 2).A2 (p2 2).N2 (p2 2).C2 pa :: gM W1.heap.size (p2 2).A3 (p2 2).N3 (p2 2).C3 pb :: gM W1.heap.size (p2 2).A4 (p2 2).N4 (p2 2).C4 dn :: _) W2:=⟨(hF.fx 2).1,(hF.fx 2).2.1,(hF.fx 2).2.2.1,(hF.fx 2).2.2.2.1,(hF.fx 2).2.2.2.2,hF.gx⟩
 clear hF
 refine wq hS hG hK (fun p3=>[.v 11 (.pointer (some ⟨p,0,none⟩)),.v 12 (pT (p2 3).N 2),.l 13 (.agg #[.slice (p2 2).A2 (p2 2).N2 (p2 2).C2]) 3 2,.v 14 (pT (p2 3).N 3),.l 15 (.agg #[.slice (p2 2).A3 (p2 2).N3 (p2 2).C3]) 3 3,.c (some 16) (cN W2.heap.size u),.n 7 #[.slice none 0 0] 26,.p 1006 0 [.slice (p3 5).A (p3 5).N (p3 5).C]]) (fun p3=>[(0,.pointer (some ⟨p,0,none⟩)),(3,pT (p1 0).N 0),(4,pT (p1 1).N 0),(5,.int .i64 0),(6,pT (p2 3).N 0),(7,pT (p3 6).N 0)]) (fun p3=>?_) (fun p3 W3 T hF hK=>?_)
 ·iterate 2 refine okv ?_
  refine okl ?_
  refine okv ?_
  refine okl ?_
  refine okc (fun W cx=>as_n cx.hb (unhide H1 _ _ _ (p2 2).C2 _ _ (p2 2).C3 ⟨_,_,cx.B 0 _ rfl (by kernel_rfl) (by kernel_rfl),hp0⟩ (Mine.num cx.G.2.2.1) (Mine.num cx.G.2.2.2.1))) ?_
  refine okn ?_
  refine okp ?_
  exact ok_nil
 replace hS:=SymF.fc hS hF [0,1,2,3,1006] [⟨p,cs9,t9_,false⟩,⟨(p1 0).N,#[.bool s,.slice a1 n1 c1,.slice a2 n2 c2,.bool s,.slice a3 n3 c3,.slice a4 n4 c4],67,true⟩,⟨(p1 1).N,#[.bool false,.slice none 0 0,.slice none 0 0],28,true⟩,⟨(p2 3).N,#[.slice (p2 2).A (p2 2).N (p2 2).C,.slice (p2 2).A' (p2 2).N' (p2 2).C',.slice (p2 2).A2 (p2 2).N2 (p2 2).C2,.slice (p2 2).A3 (p2 2).N3 (p2 2).C3,.slice (p2 2).A4 (p2 2).N4 (p2 2).C4,.bool false],190,true⟩,⟨(p3 6).N,#[.slice (p3 5).A (p3 5).N (p3 5).C],26,true⟩]
 replace hG:GsAt (gM W2.heap.size (p3 5).A (p3 5).N (p3 5).C u :: _) W3:=⟨hF.fx 5,hF.gx⟩
 clear hF
 refine wp_seq ?_
 refine wq hS hG hK (fun p4=>[.v 17 (pT (p2 3).N 5),.l 18 (.bool false) 3 5]) (fun p4=>[(0,.pointer (some ⟨p,0,none⟩)),(3,pT (p1 0).N 0),(4,pT (p1 1).N 0),(5,.int .i64 0),(6,pT (p2 3).N 0),(7,pT (p3 6).N 0),(18,.bool false)]) (fun p4=>?_) (fun p4 W4 T hF hK=>?_)
 ·refine okv ?_
  refine okl ?_
  exact ok_nil
 obtain ⟨hS,hG⟩:=SymF.fg hS hF
 clear hF
 have z4:=hS.fr.size
 refine wp_cond_false (hK.ew 18) (wp_skip (then_n ?_))
 refine wq hS hG hK (fun p5=>[.v 23 (.pointer (some ⟨p,0,none⟩)),.l 24 (.agg #[.slice (p3 5).A (p3 5).N (p3 5).C]) 4 0,.v 25 (.pointer (some ⟨p,0,none⟩)),.v 26 (.pointer (some ⟨p,0,none⟩)),.v 27 (pT (p2 3).N 0),.l 28 (.agg #[.slice (p2 2).A (p2 2).N (p2 2).C]) 3 0,.v 29 (pT (p2 3).N 1),.l 30 (.agg #[.slice (p2 2).A' (p2 2).N' (p2 2).C']) 3 1,.c (some 31) (cN W4.heap.size x),.v 32 (pT (p2 3).N 4),.l 33 (.agg #[.slice (p2 2).A4 (p2 2).N4 (p2 2).C4]) 3 4,.c (some 34) (cN W4.heap.size y),.c (some 35) (cN W4.heap.size z),.p 4 0 [.slice (p5 12).A (p5 12).N (p5 12).C]]) (fun p5=>[(0,.pointer (some ⟨p,0,none⟩)),(3,pT (p1 0).N 0),(4,pT (p1 1).N 0),(5,.int .i64 0),(6,pT (p2 3).N 0),(7,pT (p3 6).N 0)]) (fun p5=>?_) (fun p5 W5 T hF hK=>?_)
 ·refine okv ?_
  refine okl ?_
  iterate 3 refine okv ?_
  refine okl ?_
  refine okv ?_
  refine okl ?_
  refine okc (fun W cx=>as_n cx.hb (unhide H3 _ _ _ (p2 2).C _ _ (p2 2).C' ⟨_,_,cx.B 0 _ rfl (by kernel_rfl) (by kernel_rfl),hp0⟩ (Mine.num cx.G.2.1) (Mine.num cx.G.2.2.1))) ?_
  refine okv ?_
  refine okl ?_
  refine okc (fun W cx=>as_n cx.hb (unhide H4 _ _ _ (p5 8).C _ _ (p2 2).C4 ⟨_,_,cx.B 0 _ rfl (by kernel_rfl) (by kernel_rfl),hp0⟩ (Mine.num (cx.F 8 (by kernel_rfl))) (Mine.num cx.G.2.2.2.2.2.1))) ?_
  refine okc (fun W cx=>as_n cx.hb (unhide H5 _ _ _ (p3 5).C _ _ (p5 11).C ⟨_,_,cx.B 0 _ rfl (by kernel_rfl) (by kernel_rfl),hp0⟩ (Mine.num cx.G.1) (Mine.num (cx.F 11 (by kernel_rfl))))) ?_
  refine okp ?_
  exact ok_nil
 replace hS:=SymF.fc hS hF [0,1,2,3,4] [⟨p,cs9,t9_,false⟩,⟨(p1 0).N,#[.bool s,.slice a1 n1 c1,.slice a2 n2 c2,.bool s,.slice a3 n3 c3,.slice a4 n4 c4],67,true⟩,⟨(p1 1).N,#[.bool false,.slice none 0 0,.slice none 0 0],28,true⟩,⟨(p2 3).N,#[.slice (p2 2).A (p2 2).N (p2 2).C,.slice (p2 2).A' (p2 2).N' (p2 2).C',.slice (p2 2).A2 (p2 2).N2 (p2 2).C2,.slice (p2 2).A3 (p2 2).N3 (p2 2).C3,.slice (p2 2).A4 (p2 2).N4 (p2 2).C4,.bool false],190,true⟩,⟨(p3 6).N,#[.slice (p5 12).A (p5 12).N (p5 12).C],26,true⟩]
 replace hG:GsAt (gM W4.heap.size (p5 8).A (p5 8).N (p5 8).C x :: gM W4.heap.size (p5 11).A (p5 11).N (p5 11).C y :: gM W4.heap.size (p5 12).A (p5 12).N (p5 12).C z :: _) W5:=⟨hF.fx 8,hF.fx 11,hF.fx 12,hF.gx⟩
 clear hF
 refine wq hS hG hK (fun p6=>[.v 36 (.pointer (some ⟨p,0,none⟩)),.v 37 (pT (p1 0).N 0),.v 38 (pT (p1 0).N 0),.l 39 (.bool s) 1 0,.l 40 (.agg #[.slice (p5 12).A (p5 12).N (p5 12).C]) 4 0,.v 41 (pT (p2 3).N 4),.l 42 (.agg #[.slice (p2 2).A4 (p2 2).N4 (p2 2).C4]) 3 4,.c (some 43) (cV (.tuple #[.agg #[.bool g,.slice (p5 12).A (p5 12).N (p5 12).C,.slice (p2 2).A4 (p2 2).N4 (p2 2).C4],.int .i64 0])),.v 44 (.agg #[.bool g,.slice (p5 12).A (p5 12).N (p5 12).C,.slice (p2 2).A4 (p2 2).N4 (p2 2).C4]),.v 45 (.int .i64 0),.p 2 0 [.bool g,.slice (p5 12).A (p5 12).N (p5 12).C,.slice (p2 2).A4 (p2 2).N4 (p2 2).C4],.v 5 (.int .i64 0)]) (fun p6=>[(0,.pointer (some ⟨p,0,none⟩)),(4,pT (p1 1).N 0),(5,.int .i64 0),(7,pT (p3 6).N 0)]) (fun p6=>?_) (fun p6 W6 T hF hK=>?_)
 ·iterate 3 refine okv ?_
  iterate 2 refine okl ?_
  refine okv ?_
  refine okl ?_
  refine okc (fun W cx=>as_v (unhide HF _ _ _ (p5 12).C _ _ (p2 2).C4 ⟨_,_,cx.B 0 _ rfl (by kernel_rfl) (by kernel_rfl),hp0⟩ (Mine.num cx.G.2.2.1) (Mine.num cx.G.2.2.2.2.2.2.2.2.1))) ?_
  iterate 2 refine okv ?_
  refine okp ?_
  refine okv ?_
  exact ok_nil
 replace hS:=SymF.fc hS hF [0,2,4] [⟨p,cs9,t9_,false⟩,⟨(p1 1).N,#[.bool g,.slice (p5 12).A (p5 12).N (p5 12).C,.slice (p2 2).A4 (p2 2).N4 (p2 2).C4],28,true⟩,⟨(p3 6).N,#[.slice (p5 12).A (p5 12).N (p5 12).C],26,true⟩]
 replace hG:=hF.gx
 clear hF
 refine wp_ret ?_
 exact sym_end hS hK (.tuple #[.agg #[.bool g,.slice (p5 12).A (p5 12).N (p5 12).C,.slice (p2 2).A4 (p2 2).N4 (p2 2).C4],.int .i64 0]) [(1,0,3)] [.bool g,.slice (p5 12).A (p5 12).N (p5 12).C,.slice (p2 2).A4 (p2 2).N4 (p2 2).C4] (by kernel_rfl) (by kernel_rfl) ⟨⟨_,_,_,_,_,_,rfl,Mine.mono hG.2.2.1 z4,Mine.mono hG.2.2.2.2.2.2.2.2.1 z1⟩,hS.fr⟩
end Go.Proofs.YtfjegmlpkiaifaaGreatDoor
