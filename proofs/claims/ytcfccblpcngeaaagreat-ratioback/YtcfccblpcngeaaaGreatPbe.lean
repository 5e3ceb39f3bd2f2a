/- Of what RatioBackRow stands on: RzSum RzSub RzAny RyMake RbMul RbSN. -/
import Derived.Test.YtcfccblpcngeaaaGreatPbd
import Derived.Test.YtcfccblpcngeaaaGreatPau
import Derived.Test.YtcfccblpcngeaaaGreatPar
import Derived.Test.YtcfccblpcngeaaaGreatPav
import Derived.Test.YtcfccblpcngeaaaGreatPai
import Derived.Test.YtcfccblpcngeaaaGreatPaj
import Derived.Test.YtcfccblpcngeaaaGreatPba
import Derived.BigQuiet
namespace Go.Proofs.YtcfccblpcngeaaaGreat
open Go.RowKit
set_option maxHeartbeats 2000000
set_option maxRecDepth 20000
def WSum (f:FuncId) (p:Nat) (s t:Bool) (m1 d1 m2 d2 z dn:Nat) (g:Bool):Prop:=∀ (W:World) (a1:Option Addr) (n1 c1:Nat) (a2:Option Addr) (n2 c2:Nat) (a3:Option Addr) (n3 c3:Nat) (a4:Option Addr) (n4 c4:Nat),Rz W p 0→Num W a1 n1 m1→Num W a2 n2 d1→Num W a3 n3 m2→Num W a4 n4 d2→Calls Tryz.prog f #[.pointer (some ⟨p,0,none⟩),.agg #[.bool s,.slice a1 n1 c1,.slice a2 n2 c2,.bool t,.slice a3 n3 c3,.slice a4 n4 c4]] W fun en W'=>(∃ A N C A' N' C',en = .returned (.tuple #[.agg #[.bool g,.slice A N C,.slice A' N' C'],.int .i64 0])∧Mine W' W.heap.size A N C z∧Mine W' W.heap.size A' N' C' dn)∧Below W.heap.size W W'
def BSum (f:FuncId) (s t:Bool) (m1 d1 m2 d2 z dn:Nat) (g:Bool):Prop:=∀ (W:World) (a1:Option Addr) (n1 c1:Nat) (a2:Option Addr) (n2 c2:Nat) (a3:Option Addr) (n3 c3:Nat) (a4:Option Addr) (n4 c4:Nat),Num W a1 n1 m1→Num W a2 n2 d1→Num W a3 n3 m2→Num W a4 n4 d2→Calls Tryz.prog f #[.agg #[.bool s,.slice a1 n1 c1,.slice a2 n2 c2,.bool t,.slice a3 n3 c3,.slice a4 n4 c4]] W fun en W'=>(∃ A N C A' N' C',en = .returned (.tuple #[.agg #[.bool g,.slice A N C,.slice A' N' C'],.int .i64 0])∧Mine W' W.heap.size A N C z∧Mine W' W.heap.size A' N' C' dn)∧Below W.heap.size W W'
theorem zsum_d (w:World) (a1 a2 a3 a4:Option Addr) (n1 n2 n3 n4 c1 c2 c3 c4 m1 d1 m2 d2:Nat) (s t g:Bool) (z dn:Nat) (h1:Num w a1 n1 m1) (h2:Num w a2 n2 d1) (h3:Num w a3 n3 m2) (h4:Num w a4 n4 d2) (HT:∀ p:Nat,Hid (WSum 55 p s t m1 d1 m2 d2 z dn g)) (hst:(s == t) = false)  :
  Calls Tryz.prog 31 #[.agg #[.bool s,.slice a1 n1 c1,.slice a2 n2 c2,.bool t,.slice a3 n3 c3,.slice a4 n4 c4]] w fun en w'=>(∃ A N C A' N' C',en = .returned (.tuple #[.agg #[.bool g,.slice A N C,.slice A' N' C'],.int .i64 0])∧Mine w' w.heap.size A N C z∧Mine w' w.heap.size A' N' C' dn)∧Below w.heap.size w w':=by
 refine calls_sym Tryz.func31 rfl (by kernel_rfl) fun T hK=>?_
 replace hK:Kn T _ [(0,.agg #[.bool s,.slice a1 n1 c1,.slice a2 n2 c2,.bool t,.slice a3 n3 c3,.slice a4 n4 c4])]:=hK
 have hS:=Fb.begin w
 have hG:GsAt [gN a1 n1 m1,gN a2 n2 d1,gN a3 n3 m2,gN a4 n4 d2] w:=⟨h1,h2,h3,h4,trivial⟩
 refine wq hS hG hK (fun p1=>[.n 1 #[.bool s,.slice a1 n1 c1,.slice a2 n2 c2,.bool t,.slice a3 n3 c3,.slice a4 n4 c4] 66,.n 2 #[.bool false,.slice none 0 0,.slice none 0 0] 30,.v 3 (.int .i64 0)]) (fun p1=>[(1,pT (p1 0).N 0),(2,pT (p1 1).N 0),(3,.int .i64 0)]) (fun p1=>?_) (fun p1 W1 T hF hK=>?_)
 ·iterate 2 refine okn ?_
  refine okv ?_
  exact ok_nil
 replace hS:=SymF.fc hS hF [1000,1001] [⟨(p1 0).N,#[.bool s,.slice a1 n1 c1,.slice a2 n2 c2,.bool t,.slice a3 n3 c3,.slice a4 n4 c4],66,true⟩,⟨(p1 1).N,#[.bool false,.slice none 0 0,.slice none 0 0],30,true⟩]
 replace hG:=hF.gx
 clear hF
 refine wq hS hG hK (fun p2=>[.n 4 #[.int .i64 0] 73]) (fun p2=>[(1,pT (p1 0).N 0),(2,pT (p1 1).N 0),(3,.int .i64 0),(4,pT (p2 0).N 0)]) (fun p2=>?_) (fun p2 W2 T hF hK=>?_)
 ·refine okn ?_
  exact ok_nil
 replace hS:=SymF.fc hS hF [0,1,1000] [⟨(p1 0).N,#[.bool s,.slice a1 n1 c1,.slice a2 n2 c2,.bool t,.slice a3 n3 c3,.slice a4 n4 c4],66,true⟩,⟨(p1 1).N,#[.bool false,.slice none 0 0,.slice none 0 0],30,true⟩,⟨(p2 0).N,#[.int .i64 0],73,true⟩]
 replace hG:=hF.gx
 clear hF
 refine wp_seq ?_
 refine wq hS hG hK (fun p3=>[.v 5 (pT (p1 0).N 0),.v 6 (pT (p1 0).N 0),.l 7 (.bool s) 0 0,.v 8 (pT (p1 0).N 3),.v 9 (pT (p1 0).N 3),.l 10 (.bool t) 0 3,.v 11 (.bool false)]) (fun p3=>[(1,pT (p1 0).N 0),(2,pT (p1 1).N 0),(3,.int .i64 0),(4,pT (p2 0).N 0),(11,.bool false)]) (fun p3=>?_) (fun p3 W3 T hF hK=>?_)
 ·iterate 2 refine okv ?_
  refine okl ?_
  iterate 2 refine okv ?_
  refine okl ?_
  refine okvb (hst) ?_
  exact ok_nil
 obtain ⟨hS,hG⟩:=SymF.fg hS hF
 clear hF
 have z3:=hS.fr.size
 refine wp_cond_false (hK.ew 11) (wp_skip (then_n ?_))
 refine wq hS hG hK (fun p4=>[.l 16 (.agg #[.bool s,.slice a1 n1 c1,.slice a2 n2 c2,.bool t,.slice a3 n3 c3,.slice a4 n4 c4]) 0 0,.c (some 17) (cH W3.heap.size z dn fun x9 y9=>.tuple #[.agg #[.bool g,x9,y9],.int .i64 0]),.v 18 (.agg #[.bool g,.slice (p4 1).A (p4 1).N (p4 1).C,.slice (p4 1).A' (p4 1).N' (p4 1).C']),.v 19 (.int .i64 0),.p 1 0 [.bool g,.slice (p4 1).A (p4 1).N (p4 1).C,.slice (p4 1).A' (p4 1).N' (p4 1).C'],.v 3 (.int .i64 0)]) (fun p4=>[(1,pT (p1 0).N 0),(2,pT (p1 1).N 0),(3,.int .i64 0),(4,pT (p2 0).N 0)]) (fun p4=>?_) (fun p4 W4 T hF hK=>?_)
 ·refine okl ?_
  refine okc (fun W cx=>as_h cx.hb (unhide (HT (p2 0).N) _ _ _ c1 _ _ c2 _ _ c3 _ _ c4 ⟨_,_,cx.B 2 _ rfl (by kernel_rfl) (by kernel_rfl),rfl⟩ (cx.G.1) (cx.G.2.1) (cx.G.2.2.1) (cx.G.2.2.2.1))) ?_
  iterate 2 refine okv ?_
  refine okp ?_
  refine okv ?_
  exact ok_nil
 replace hS:=SymF.fc hS hF [0,1,2] [⟨(p1 0).N,#[.bool s,.slice a1 n1 c1,.slice a2 n2 c2,.bool t,.slice a3 n3 c3,.slice a4 n4 c4],66,true⟩,⟨(p1 1).N,#[.bool g,.slice (p4 1).A (p4 1).N (p4 1).C,.slice (p4 1).A' (p4 1).N' (p4 1).C'],30,true⟩,⟨(p2 0).N,#[.int .i64 0],73,true⟩]
 replace hG:GsAt (gM W3.heap.size (p4 1).A (p4 1).N (p4 1).C z :: gM W3.heap.size (p4 1).A' (p4 1).N' (p4 1).C' dn :: _) W4:=⟨And.left (hF.fx 1),And.right (hF.fx 1),hF.gx⟩
 clear hF
 refine wp_ret ?_
 exact sym_end hS hK (.tuple #[.agg #[.bool g,.slice (p4 1).A (p4 1).N (p4 1).C,.slice (p4 1).A' (p4 1).N' (p4 1).C'],.int .i64 0]) [(1,0,3)] [.bool g,.slice (p4 1).A (p4 1).N (p4 1).C,.slice (p4 1).A' (p4 1).N' (p4 1).C'] (by kernel_rfl) (by kernel_rfl) ⟨⟨_,_,_,_,_,_,rfl,Mine.mono hG.1 z3,Mine.mono hG.2.1 z3⟩,hS.fr⟩
theorem zfra_t (w:World) (p:Nat) (a1 a2:Option Addr) (n1 n2 c1 c2 x y:Nat) (b:Bool) (hR:Rz w p 0) (h1:Num w a1 n1 x) (h2:Num w a2 n2 y) (hz:decide (x = 0) = b)  :
  Calls Tryz.prog 41 #[.pointer (some ⟨p,0,none⟩),.bool true,.agg #[.slice a1 n1 c1],.agg #[.slice a2 n2 c2]] w fun en w'=>en = .returned (.tuple #[.agg #[.bool (!b),.slice a1 n1 c1,.slice a2 n2 c2],.int .i64 0])∧Below w.heap.size w w':=by
 obtain ⟨cs9,t9_,hp,hp0⟩:=hR
 refine calls_sym Tryz.func41 rfl (by kernel_rfl) fun T hK=>?_
 replace hK:Kn T _ [(0,.pointer (some ⟨p,0,none⟩)),(1,.bool true),(2,.agg #[.slice a1 n1 c1]),(3,.agg #[.slice a2 n2 c2])]:=hK
 have hS:=Fb.other hp
 have hG:GsAt [gN a1 n1 x,gN a2 n2 y] w:=⟨h1,h2,trivial⟩
 refine wq hS hG hK (fun p1=>[.n 6 #[.slice a1 n1 c1] 28,.n 7 #[.slice a2 n2 c2] 28,.n 8 #[.bool false,.slice none 0 0,.slice none 0 0] 30,.v 9 (.int .i64 0)]) (fun p1=>[(0,.pointer (some ⟨p,0,none⟩)),(1,.bool true),(6,pT (p1 0).N 0),(7,pT (p1 1).N 0),(8,pT (p1 2).N 0),(9,.int .i64 0)]) (fun p1=>?_) (fun p1 W1 T hF hK=>?_)
 ·iterate 3 refine okn ?_
  refine okv ?_
  exact ok_nil
 replace hS:=SymF.fc hS hF [0,1000,1001,1002] [⟨p,cs9,t9_,false⟩,⟨(p1 0).N,#[.slice a1 n1 c1],28,true⟩,⟨(p1 1).N,#[.slice a2 n2 c2],28,true⟩,⟨(p1 2).N,#[.bool false,.slice none 0 0,.slice none 0 0],30,true⟩]
 replace hG:=hF.gx
 clear hF
 refine wp_seq ?_
 refine wq hS hG hK (fun p2=>[.v 10 (.pointer (some ⟨p,0,none⟩)),.v 11 (.pointer (some ⟨p,0,none⟩)),.v 12 (.pointer (some ⟨p,0,none⟩)),.v 13 (.pointer (some ⟨p,0,none⟩)),.g 14 (.int .i64 0) [.int .i64 0] [.ld ⟨p,0,none⟩ (.int .i64 0)],.v 15 (.bool false)]) (fun p2=>[(0,.pointer (some ⟨p,0,none⟩)),(1,.bool true),(6,pT (p1 0).N 0),(7,pT (p1 1).N 0),(8,pT (p1 2).N 0),(9,.int .i64 0),(15,.bool false)]) (fun p2=>?_) (fun p2 W2 T hF hK=>?_)
 ·iterate 4 refine okv ?_
  refine ok_g (fun W cx=>⟨⟨(Rz.cell (k:=0) ⟨_,_,cx.B 0 _ rfl (by kernel_rfl) (by kernel_rfl),hp0⟩).1,trivial⟩,rfl⟩) (by kernel_rfl) ?_
  refine okv ?_
  exact ok_nil
 obtain ⟨hS,hG⟩:=SymF.fg hS hF
 clear hF
 refine wp_cond_false (hK.ew 15) (wp_skip (then_n ?_))
 refine wq hS hG hK (fun p3=>[.v 22 (.bool true),.v 23 (.bool true),.l 24 (.agg #[.slice a1 n1 c1]) 1 0,.c (some 25) (cV (.bool b)),.v 26 (.bool (!b)),.v 27 (.bool (!b)),.l 28 (.agg #[.slice a1 n1 c1]) 1 0,.l 29 (.agg #[.slice a2 n2 c2]) 2 0,.v 30 (.agg #[.bool (!b),.slice a1 n1 c1,.slice a2 n2 c2]),.p 3 0 [.bool (!b),.slice a1 n1 c1,.slice a2 n2 c2],.v 9 (.int .i64 0)]) (fun p3=>[(0,.pointer (some ⟨p,0,none⟩)),(8,pT (p1 2).N 0),(9,.int .i64 0)]) (fun p3=>?_) (fun p3 W3 T hF hK=>?_)
 ·iterate 2 refine okv ?_
  refine okl ?_
  refine okc (fun W cx=>as_v (znought a1 _ c1 _ _ ((Num.zdec (cx.G.1)).trans hz))) ?_
  iterate 2 refine okv ?_
  iterate 2 refine okl ?_
  refine okv ?_
  refine okp ?_
  refine okv ?_
  exact ok_nil
 replace hS:=SymF.fc hS hF [0,3] [⟨p,cs9,t9_,false⟩,⟨(p1 2).N,#[.bool (!b),.slice a1 n1 c1,.slice a2 n2 c2],30,true⟩]
 replace hG:=hF.gx
 clear hF
 refine wp_ret ?_
 exact sym_end hS hK (.tuple #[.agg #[.bool (!b),.slice a1 n1 c1,.slice a2 n2 c2],.int .i64 0]) [(1,0,3)] [.bool (!b),.slice a1 n1 c1,.slice a2 n2 c2] (by kernel_rfl) (by kernel_rfl) ⟨rfl,hS.fr⟩
theorem zfra_f (w:World) (p:Nat) (a1 a2:Option Addr) (n1 n2 c1 c2 x y:Nat) (hR:Rz w p 0) (h1:Num w a1 n1 x) (h2:Num w a2 n2 y)  :
  Calls Tryz.prog 41 #[.pointer (some ⟨p,0,none⟩),.bool false,.agg #[.slice a1 n1 c1],.agg #[.slice a2 n2 c2]] w fun en w'=>en = .returned (.tuple #[.agg #[.bool false,.slice a1 n1 c1,.slice a2 n2 c2],.int .i64 0])∧Below w.heap.size w w':=by
 obtain ⟨cs9,t9_,hp,hp0⟩:=hR
 refine calls_sym Tryz.func41 rfl (by kernel_rfl) fun T hK=>?_
 replace hK:Kn T _ [(0,.pointer (some ⟨p,0,none⟩)),(1,.bool false),(2,.agg #[.slice a1 n1 c1]),(3,.agg #[.slice a2 n2 c2])]:=hK
 have hS:=Fb.other hp
 have hG:GsAt [gN a1 n1 x,gN a2 n2 y] w:=⟨h1,h2,trivial⟩
 refine wq hS hG hK (fun p1=>[.n 6 #[.slice a1 n1 c1] 28,.n 7 #[.slice a2 n2 c2] 28,.n 8 #[.bool false,.slice none 0 0,.slice none 0 0] 30,.v 9 (.int .i64 0)]) (fun p1=>[(0,.pointer (some ⟨p,0,none⟩)),(1,.bool false),(6,pT (p1 0).N 0),(7,pT (p1 1).N 0),(8,pT (p1 2).N 0),(9,.int .i64 0)]) (fun p1=>?_) (fun p1 W1 T hF hK=>?_)
 ·iterate 3 refine okn ?_
  refine okv ?_
  exact ok_nil
 replace hS:=SymF.fc hS hF [0,1000,1001,1002] [⟨p,cs9,t9_,false⟩,⟨(p1 0).N,#[.slice a1 n1 c1],28,true⟩,⟨(p1 1).N,#[.slice a2 n2 c2],28,true⟩,⟨(p1 2).N,#[.bool false,.slice none 0 0,.slice none 0 0],30,true⟩]
 replace hG:=hF.gx
 clear hF
 refine wp_seq ?_
 refine wq hS hG hK (fun p2=>[.v 10 (.pointer (some ⟨p,0,none⟩)),.v 11 (.pointer (some ⟨p,0,none⟩)),.v 12 (.pointer (some ⟨p,0,none⟩)),.v 13 (.pointer (some ⟨p,0,none⟩)),.g 14 (.int .i64 0) [.int .i64 0] [.ld ⟨p,0,none⟩ (.int .i64 0)],.v 15 (.bool false)]) (fun p2=>[(0,.pointer (some ⟨p,0,none⟩)),(1,.bool false),(6,pT (p1 0).N 0),(7,pT (p1 1).N 0),(8,pT (p1 2).N 0),(9,.int .i64 0),(15,.bool false)]) (fun p2=>?_) (fun p2 W2 T hF hK=>?_)
 ·iterate 4 refine okv ?_
  refine ok_g (fun W cx=>⟨⟨(Rz.cell (k:=0) ⟨_,_,cx.B 0 _ rfl (by kernel_rfl) (by kernel_rfl),hp0⟩).1,trivial⟩,rfl⟩) (by kernel_rfl) ?_
  refine okv ?_
  exact ok_nil
 obtain ⟨hS,hG⟩:=SymF.fg hS hF
 clear hF
 refine wp_cond_false (hK.ew 15) (wp_skip (then_n ?_))
 refine wq hS hG hK (fun p3=>[.v 22 (.bool false),.v 23 (.bool false),.k (some 24),.k (some 25),.k (some 26),.v 27 (.bool false),.l 28 (.agg #[.slice a1 n1 c1]) 1 0,.l 29 (.agg #[.slice a2 n2 c2]) 2 0,.v 30 (.agg #[.bool false,.slice a1 n1 c1,.slice a2 n2 c2]),.p 3 0 [.bool false,.slice a1 n1 c1,.slice a2 n2 c2],.v 9 (.int .i64 0)]) (fun p3=>[(0,.pointer (some ⟨p,0,none⟩)),(8,pT (p1 2).N 0),(9,.int .i64 0)]) (fun p3=>?_) (fun p3 W3 T hF hK=>?_)
 ·iterate 2 refine okv ?_
  iterate 3 refine okk ?_
  refine okv ?_
  iterate 2 refine okl ?_
  refine okv ?_
  refine okp ?_
  refine okv ?_
  exact ok_nil
 replace hS:=SymF.fc hS hF [0,3] [⟨p,cs9,t9_,false⟩,⟨(p1 2).N,#[.bool false,.slice a1 n1 c1,.slice a2 n2 c2],30,true⟩]
 replace hG:=hF.gx
 clear hF
 refine wp_ret ?_
 exact sym_end hS hK (.tuple #[.agg #[.bool false,.slice a1 n1 c1,.slice a2 n2 c2],.int .i64 0]) [(1,0,3)] [.bool false,.slice a1 n1 c1,.slice a2 n2 c2] (by kernel_rfl) (by kernel_rfl) ⟨rfl,hS.fr⟩
theorem zbck (w:World) (a1 a2 a3 a4:Option Addr) (n1 n2 n3 n4 c1 c2 c3 c4 m1 d1 m2 d2:Nat) (s t:Bool) (h1:Num w a1 n1 m1) (h2:Num w a2 n2 d1) (h3:Num w a3 n3 m2) (h4:Num w a4 n4 d2) (C1:Hid (∀ W:World,Num W a1 n1 m1→Num W a2 n2 d1→Calls Tryz.prog 15 #[.agg #[.bool s,.slice a1 n1 c1,.slice a2 n2 c2]] W fun e W'=>e = .returned (.int .i64 0)∧Below W.heap.size W W')) (C2:Hid (∀ W:World,Num W a3 n3 m2→Num W a4 n4 d2→Calls Tryz.prog 15 #[.agg #[.bool t,.slice a3 n3 c3,.slice a4 n4 c4]] W fun e W'=>e = .returned (.int .i64 0)∧Below W.heap.size W W'))  :
  Calls Tryz.prog 32 #[.agg #[.bool s,.slice a1 n1 c1,.slice a2 n2 c2,.bool t,.slice a3 n3 c3,.slice a4 n4 c4]] w fun en w'=>en = .returned (.int .i64 0)∧Below w.heap.size w w':=by
 refine calls_sym Tryz.func32 rfl (by kernel_rfl) fun T hK=>?_
 replace hK:Kn T _ [(0,.agg #[.bool s,.slice a1 n1 c1,.slice a2 n2 c2,.bool t,.slice a3 n3 c3,.slice a4 n4 c4])]:=hK
 have hS:=Fb.begin w
 have hG:GsAt [gN a1 n1 m1,gN a2 n2 d1,gN a3 n3 m2,gN a4 n4 d2] w:=⟨h1,h2,h3,h4,trivial⟩
 refine wq hS hG hK (fun p1=>[.n 1 #[.bool s,.slice a1 n1 c1,.slice a2 n2 c2,.bool t,.slice a3 n3 c3,.slice a4 n4 c4] 66,.v 2 (.int .i64 0)]) (fun p1=>[(1,pT (p1 0).N 0),(2,.int .i64 0)]) (fun p1=>?_) (fun p1 W1 T hF hK=>?_)
 ·refine okn ?_
  refine okv ?_
  exact ok_nil
 replace hS:=SymF.fc hS hF [1000] [⟨(p1 0).N,#[.bool s,.slice a1 n1 c1,.slice a2 n2 c2,.bool t,.slice a3 n3 c3,.slice a4 n4 c4],66,true⟩]
 replace hG:=hF.gx
 clear hF
 refine wp_seq ?_
 refine wq hS hG hK (fun p2=>[.v 4 (pT (p1 0).N 0),.l 5 (.agg #[.bool s,.slice a1 n1 c1,.slice a2 n2 c2]) 0 0,.c (some 6) (cV (.int .i64 0)),.v 3 (.int .i64 0)]) (fun p2=>[(1,pT (p1 0).N 0),(2,.int .i64 0),(3,.int .i64 0)]) (fun p2=>?_) (fun p2 W2 T hF hK=>?_)
 ·refine okv ?_
  refine okl ?_
  refine okc (fun W cx=>as_v (unhide C1 _ (cx.G.1) (cx.G.2.1))) ?_
  refine okv ?_
  exact ok_nil
 obtain ⟨hS,hG⟩:=SymF.fg hS hF
 clear hF
 refine wq hS hG hK (fun p3=>[.v 7 (.int .i64 0),.v 8 (.bool false)]) (fun p3=>[(1,pT (p1 0).N 0),(2,.int .i64 0),(3,.int .i64 0),(8,.bool false)]) (fun p3=>?_) (fun p3 W3 T hF hK=>?_)
 ·iterate 2 refine okv ?_
  exact ok_nil
 obtain ⟨hS,hG⟩:=SymF.fg hS hF
 clear hF
 refine wp_cond_false (hK.ew 8) (wp_skip (then_n ?_))
 refine wq hS hG hK (fun p4=>[.v 10 (pT (p1 0).N 3),.l 11 (.agg #[.bool t,.slice a3 n3 c3,.slice a4 n4 c4]) 0 3,.c (some 12) (cV (.int .i64 0)),.v 2 (.int .i64 0)]) (fun p4=>[(2,.int .i64 0),(3,.int .i64 0)]) (fun p4=>?_) (fun p4 W4 T hF hK=>?_)
 ·refine okv ?_
  refine okl ?_
  refine okc (fun W cx=>as_v (unhide C2 _ (cx.G.2.2.1) (cx.G.2.2.2.1))) ?_
  refine okv ?_
  exact ok_nil
 obtain ⟨hS,hG⟩:=SymF.fg hS hF
 clear hF
 refine wp_ret ?_
 exact sym_end hS hK (.int .i64 0) [] [] (by kernel_rfl) (by kernel_rfl) ⟨rfl,hS.fr⟩
theorem zans {w:World} {base:Nat} {e:Ending} {m:Nat} (h:Ans w base e m) (hn:¬ Over m):∃ a n cap,e = .returned (.tuple #[.agg #[.slice a n cap],.int .i64 0])∧Mine w base a n cap m:=by
 rcases h with h|h
 ·exact h
 ·exact absurd h.2 hn
theorem wadd_ok (p:Nat) {x y:Nat} (ho:¬ Over (x+y)):WTwo 37 p x y (x+y):=fun W a n c a' n' c' hR h h'=>
 zadd W p a a' n n' c c' x y _ hR h h' (hide fun W a n c a' n' c' h h'=>(add_any a a' n n' c c' x y W h h').mono fun _ _ ⟨k,hb⟩=>⟨zans k ho,hb⟩)
theorem wmul_ok (p:Nat) {x y:Nat} (ho:¬ Over (x * y)):WTwo 52 p x y (x * y):=fun W a n c a' n' c' hR h h'=>
 zmul W p a a' n n' c c' x y _ hR h h' (hide fun W a n c a' n' c' h h'=>(mul_any a a' n n' c c' x y W h h').mono fun _ _ ⟨k,hb⟩=>⟨zans k ho,hb⟩)
theorem wgcd_ok (p x y:Nat):WTwo 40 p x y (Nat.gcd x y):=fun W a n c a' n' c' hR h h'=>
 zgcd W p a a' n n' c c' x y _ hR h h' (hide fun W a n c a' n' c' h h'=>gcd_any a a' n n' c c' x y W h h')
theorem wsub_ok (p:Nat) {x y:Nat} (hy:y≤x):WTwo 76 p x y (x - y):=fun W a n c a' n' c' hR h h'=>
 zsub W p a a' n n' c c' x y _ true hR h h' (hide fun W a n c a' n' c' h h'=>(sub_any a a' n n' c c' x y W h h').mono fun _ _ ⟨k,hb⟩=>⟨by
  rcases k with ⟨k,_⟩|⟨_,k⟩
  ·omega
  ·exact k,hb⟩)
theorem wdiv_ok (p x:Nat) {y:Nat} (hy:0 < y):WDiv p x y (x / y) (x % y):=fun W a n c a' n' c' hR h h'=>
 zdiv W p a a' n n' c c' x y _ _ hR h h' (hide fun W a n c a' n' c' h h'=>(div_any a a' n n' c c' x y W h h').mono fun _ _ ⟨k,hb⟩=>⟨by
  rcases k with ⟨k,_⟩|⟨_,k⟩
  ·omega
  ·exact k,hb⟩)
theorem wcmp_ok (p x y:Nat):WCmp p x y (cmpI x y):=fun W a n c a' n' c' hR h h'=>
 zcmp W p a a' n n' c c' x y _ hR h h' (hide fun W a n c a' n' c' h h'=>cmpN_any a a' n n' c c' x y W h h')
theorem wover_ok (p x:Nat) {y:Nat} (hy:0 < y):WTwo 42 p x y (x / y):=fun W a n c a' n' c' hR h h'=>
 zover W p a a' n n' c c' x y _ _ hR h h' (hide (wdiv_ok p x hy))
theorem zmo_parts (x y z:Nat) (hz:0 < z):x / z * y+x % z * y / z = x * y / z∧x % z * y % z = x * y % z:=by
 have h:x * y = z * (x / z * y)+x % z * y:=by
  have:=Nat.div_add_mod x z
  conv=>lhs; rw [← this,Nat.add_mul,Nat.mul_assoc]
 exact ⟨by rw [h,Nat.mul_add_div hz],by rw [h,Nat.mul_add_mod]⟩
theorem wmo_ok (p x y:Nat) {z:Nat} (hz:0 < z) (ho:¬ Over (x % z * y)) (hq:¬ Over (x * y / z)) (hm:∀ {m n:Nat},m≤n→Over m→Over n):WMo p x y z (x * y / z) (x * y % z):=fun W a n c a' n' c' a2 n2 c2 hR h h' h2=>by
 obtain ⟨e1,e2⟩:=zmo_parts x y z hz
 have k:=zmo W p a a' a2 n n' n2 c c' c2 x y z _ _ _ _ _ _ _ hR h h' h2 (hide (wdiv_ok p x hz)) (hide (wmul_ok p ho)) (hide (wdiv_ok p _ hz)) (hide (wmul_ok p (x:=x / z) (y:=y) fun o=>hq (hm (Nat.le.intro e1) o))) (hide (wadd_ok p (by rw [e1]; exact hq)))
 rw [e1,e2] at k
 exact k
theorem wdist_ok (p x y:Nat):WTwo 99 p x y (if x < y then y - x else x - y):=fun W a n c a' n' c' hR h h'=>by
 by_cases hl:x < y
 ·rw [if_pos hl]
  exact zdist_lt W p a a' n n' c c' x y _ _ hR h h' (hide (wcmp_ok p x y)) (by unfold cmpI; rw [if_pos hl]; decide) (hide (wsub_ok p (by omega)))
 ·rw [if_neg hl]
  exact zdist_ge W p a a' n n' c c' x y _ _ hR h h' (hide (wcmp_ok p x y)) (by unfold cmpI; rw [if_neg hl]; split <;> decide) (hide (wsub_ok p (by omega)))
theorem wfr_ok (p:Nat) (s:Bool) (x y:Nat):WFr p s x y (s && !decide (x = 0)):=fun W a n c a' n' c' hR h h'=>by
 cases s
 ·exact zfra_f W p a a' n n' c c' x y hR h h'
 ·exact zfra_t W p a a' n n' c c' x y _ hR h h' rfl
def aFr (t:Bool) (a:Array Value):Value:=match a.getD 2 undef,a.getD 3 undef with
 | .agg x,.agg y=>.tuple #[.agg #[.bool t,x.getD 0 undef,y.getD 0 undef],.int .i64 0]
 | _,_=>undef
theorem zmake_is (w:World) (s t:Bool) (a1 a2:Option Addr) (n1 n2 c1 c2 x y g u v:Nat) (h1:Num w a1 n1 x) (h2:Num w a2 n2 y) (hy:y≠0) (HG:∀ p:Nat,Hid (WTwo 40 p x y g)) (HA:∀ p:Nat,Hid (WTwo 42 p x g u)) (HB:∀ p:Nat,Hid (WTwo 42 p y g v)) (HF:∀ p:Nat,Hid (WFr p s u v t)) :
  Calls Tryz.prog 17 #[.bool s,.agg #[.slice a1 n1 c1],.agg #[.slice a2 n2 c2]] w fun en w'=>(∃ A N C A' N' C',en = .returned (.tuple #[.agg #[.bool t,.slice A N C,.slice A' N' C'],.int .i64 0])∧Mine w' w.heap.size A N C u∧Mine w' w.heap.size A' N' C' v)∧Below w.heap.size w w':=by
 refine calls_sym Tryz.func17 rfl (by kernel_rfl) fun T hK=>?_
 replace hK:Kn T _ [(0,.bool s),(1,.agg #[.slice a1 n1 c1]),(2,.agg #[.slice a2 n2 c2])]:=hK
 have hS:=Fb.begin w
 have hG:GsAt [gN a1 n1 x,gN a2 n2 y] w:=⟨h1,h2,trivial⟩
 refine wq hS hG hK (fun p1=>[.n 4 #[.slice a1 n1 c1] 28,.n 5 #[.slice a2 n2 c2] 28,.n 6 #[.bool false,.slice none 0 0,.slice none 0 0] 30,.v 7 (.int .i64 0)]) (fun p1=>[(0,.bool s),(4,pT (p1 0).N 0),(5,pT (p1 1).N 0),(6,pT (p1 2).N 0),(7,.int .i64 0)]) (fun p1=>?_) (fun p1 W1 T hF hK=>?_)
 ·iterate 3 refine okn ?_
  refine okv ?_
  exact ok_nil
 replace hS:=SymF.fc hS hF [1000,1001,1002] [⟨(p1 0).N,#[.slice a1 n1 c1],28,true⟩,⟨(p1 1).N,#[.slice a2 n2 c2],28,true⟩,⟨(p1 2).N,#[.bool false,.slice none 0 0,.slice none 0 0],30,true⟩]
 replace hG:=hF.gx
 clear hF
 refine wp_seq ?_
 refine wq hS hG hK (fun p2=>[.l 12 (.agg #[.slice a1 n1 c1]) 0 0,.c (some 13) (cV (.int .i64 0)),.v 8 (.int .i64 0)]) (fun p2=>[(0,.bool s),(4,pT (p1 0).N 0),(5,pT (p1 1).N 0),(6,pT (p1 2).N 0),(7,.int .i64 0),(8,.int .i64 0)]) (fun p2=>?_) (fun p2 W2 T hF hK=>?_)
 ·refine okl ?_
  refine okc (fun W cx=>as_v (check_num _ _ c1 _ _ (cx.G.1))) ?_
  refine okv ?_
  exact ok_nil
 obtain ⟨hS,hG⟩:=SymF.fg hS hF
 clear hF
 refine wq hS hG hK (fun p3=>[.v 14 (.int .i64 0),.v 15 (.bool false)]) (fun p3=>[(0,.bool s),(4,pT (p1 0).N 0),(5,pT (p1 1).N 0),(6,pT (p1 2).N 0),(7,.int .i64 0),(8,.int .i64 0),(15,.bool false)]) (fun p3=>?_) (fun p3 W3 T hF hK=>?_)
 ·iterate 2 refine okv ?_
  exact ok_nil
 obtain ⟨hS,hG⟩:=SymF.fg hS hF
 clear hF
 refine wp_cond_false (hK.ew 15) (wp_skip ?_)
 refine then_n (wp_seq ?_)
 refine wq hS hG hK (fun p4=>[.l 18 (.agg #[.slice a2 n2 c2]) 1 0,.c (some 19) (cV (.int .i64 0)),.v 9 (.int .i64 0)]) (fun p4=>[(0,.bool s),(4,pT (p1 0).N 0),(5,pT (p1 1).N 0),(6,pT (p1 2).N 0),(7,.int .i64 0),(8,.int .i64 0),(9,.int .i64 0),(15,.bool false)]) (fun p4=>?_) (fun p4 W4 T hF hK=>?_)
 ·refine okl ?_
  refine okc (fun W cx=>as_v (check_num _ _ c2 _ _ (cx.G.2.1))) ?_
  refine okv ?_
  exact ok_nil
 obtain ⟨hS,hG⟩:=SymF.fg hS hF
 clear hF
 refine wq hS hG hK (fun p5=>[.v 20 (.int .i64 0),.v 21 (.bool false)]) (fun p5=>[(0,.bool s),(4,pT (p1 0).N 0),(5,pT (p1 1).N 0),(6,pT (p1 2).N 0),(7,.int .i64 0),(8,.int .i64 0),(9,.int .i64 0),(15,.bool false),(21,.bool false)]) (fun p5=>?_) (fun p5 W5 T hF hK=>?_)
 ·iterate 2 refine okv ?_
  exact ok_nil
 obtain ⟨hS,hG⟩:=SymF.fg hS hF
 clear hF
 refine wp_cond_false (hK.ew 21) (wp_skip ?_)
 refine then_n (wp_seq ?_)
 refine wq hS hG hK (fun p6=>[.l 24 (.agg #[.slice a2 n2 c2]) 1 0,.c (some 25) (cV (.bool false))]) (fun p6=>[(0,.bool s),(4,pT (p1 0).N 0),(5,pT (p1 1).N 0),(6,pT (p1 2).N 0),(7,.int .i64 0),(8,.int .i64 0),(9,.int .i64 0),(15,.bool false),(21,.bool false),(25,.bool false)]) (fun p6=>?_) (fun p6 W6 T hF hK=>?_)
 ·refine okl ?_
  refine okc (fun W cx=>as_v (znought a2 _ c2 _ _ ((Num.zdec (cx.G.2.1)).trans (decide_eq_false hy)))) ?_
  exact ok_nil
 obtain ⟨hS,hG⟩:=SymF.fg hS hF
 clear hF
 refine wp_cond_false (hK.ew 25) (wp_skip (then_n ?_))
 refine wq hS hG hK (fun p7=>[.n 10 #[.int .i64 0] 73]) (fun p7=>[(0,.bool s),(4,pT (p1 0).N 0),(5,pT (p1 1).N 0),(6,pT (p1 2).N 0),(7,.int .i64 0),(8,.int .i64 0),(9,.int .i64 0),(10,pT (p7 0).N 0),(15,.bool false),(21,.bool false),(25,.bool false)]) (fun p7=>?_) (fun p7 W7 T hF hK=>?_)
 ·refine okn ?_
  exact ok_nil
 replace hS:=SymF.fc hS hF [0,1,2,1000] [⟨(p1 0).N,#[.slice a1 n1 c1],28,true⟩,⟨(p1 1).N,#[.slice a2 n2 c2],28,true⟩,⟨(p1 2).N,#[.bool false,.slice none 0 0,.slice none 0 0],30,true⟩,⟨(p7 0).N,#[.int .i64 0],73,true⟩]
 replace hG:=hF.gx
 clear hF
 refine wq hS hG hK (fun p8=>[.l 27 (.agg #[.slice a1 n1 c1]) 0 0,.l 28 (.agg #[.slice a2 n2 c2]) 1 0,.c (some 29) (cN W7.heap.size g),.n 11 #[.slice none 0 0] 28,.p 1003 0 [.slice (p8 2).A (p8 2).N (p8 2).C]]) (fun p8=>[(0,.bool s),(4,pT (p1 0).N 0),(5,pT (p1 1).N 0),(6,pT (p1 2).N 0),(7,.int .i64 0),(8,.int .i64 0),(9,.int .i64 0),(10,pT (p7 0).N 0),(11,pT (p8 3).N 0),(15,.bool false),(21,.bool false),(25,.bool false)]) (fun p8=>?_) (fun p8 W8 T hF hK=>?_)
 ·iterate 2 refine okl ?_
  refine okc (fun W cx=>as_n cx.hb (unhide (HG (p7 0).N) _ _ _ c1 _ _ c2 ⟨_,_,cx.B 3 _ rfl (by kernel_rfl) (by kernel_rfl),rfl⟩ (cx.G.1) (cx.G.2.1))) ?_
  refine okn ?_
  refine okp ?_
  exact ok_nil
 replace hS:=SymF.fc hS hF [0,1,2,3,1003] [⟨(p1 0).N,#[.slice a1 n1 c1],28,true⟩,⟨(p1 1).N,#[.slice a2 n2 c2],28,true⟩,⟨(p1 2).N,#[.bool false,.slice none 0 0,.slice none 0 0],30,true⟩,⟨(p7 0).N,#[.int .i64 0],73,true⟩,⟨(p8 3).N,#[.slice (p8 2).A (p8 2).N (p8 2).C],28,true⟩]
 replace hG:GsAt (gM W7.heap.size (p8 2).A (p8 2).N (p8 2).C g :: _) W8:=⟨hF.fx 2,hF.gx⟩
 clear hF
 have z8:=hS.fr.size
 refine wq hS hG hK (fun p9=>[.v 30 (.bool s),.l 31 (.agg #[.slice a1 n1 c1]) 0 0,.l 32 (.agg #[.slice (p8 2).A (p8 2).N (p8 2).C]) 4 0,.c (some 33) (cN W8.heap.size u),.l 34 (.agg #[.slice a2 n2 c2]) 1 0,.l 35 (.agg #[.slice (p8 2).A (p8 2).N (p8 2).C]) 4 0,.c (some 36) (cN W8.heap.size v),.u 37 (.tuple #[.agg #[.bool t,.slice (p9 3).A (p9 3).N (p9 3).C,.slice (p9 6).A (p9 6).N (p9 6).C],.int .i64 0]) (aFr t),.v 38 (.agg #[.bool t,.slice (p9 3).A (p9 3).N (p9 3).C,.slice (p9 6).A (p9 6).N (p9 6).C]),.v 39 (.int .i64 0),.p 2 0 [.bool t,.slice (p9 3).A (p9 3).N (p9 3).C,.slice (p9 6).A (p9 6).N (p9 6).C],.v 7 (.int .i64 0)]) (fun p9=>[(6,pT (p1 2).N 0),(7,.int .i64 0),(8,.int .i64 0),(9,.int .i64 0),(15,.bool false),(21,.bool false),(25,.bool false)]) (fun p9=>?_) (fun p9 W9 T hF hK=>?_)
 ·refine okv ?_
  iterate 2 refine okl ?_
  refine okc (fun W cx=>as_n cx.hb (unhide (HA (p7 0).N) _ _ _ c1 _ _ (p8 2).C ⟨_,_,cx.B 3 _ rfl (by kernel_rfl) (by kernel_rfl),rfl⟩ (cx.G.2.1) (Mine.num cx.G.1))) ?_
  iterate 2 refine okl ?_
  refine okc (fun W cx=>as_n cx.hb (unhide (HB (p7 0).N) _ _ _ c2 _ _ (p8 2).C ⟨_,_,cx.B 3 _ rfl (by kernel_rfl) (by kernel_rfl),rfl⟩ (cx.G.2.2.1) (Mine.num cx.G.1))) ?_
  refine oku (fun W cx=>unhide (HF (p7 0).N) _ _ _ (p9 3).C _ _ (p9 6).C ⟨_,_,cx.B 3 _ rfl (by kernel_rfl) (by kernel_rfl),rfl⟩ (Mine.num (cx.F 3 (by kernel_rfl))) (Mine.num (cx.F 6 (by kernel_rfl)))) ?_
  iterate 2 refine okv ?_
  refine okp ?_
  refine okv ?_
  exact ok_nil
 replace hS:=SymF.fc hS hF [2] [⟨(p1 2).N,#[.bool t,.slice (p9 3).A (p9 3).N (p9 3).C,.slice (p9 6).A (p9 6).N (p9 6).C],30,true⟩]
 replace hG:GsAt (gM W8.heap.size (p9 3).A (p9 3).N (p9 3).C u :: gM W8.heap.size (p9 6).A (p9 6).N (p9 6).C v :: _) W9:=⟨hF.fx 3,hF.fx 6,hF.gx⟩
 clear hF
 refine wp_ret ?_
 exact sym_end hS hK (.tuple #[.agg #[.bool t,.slice (p9 3).A (p9 3).N (p9 3).C,.slice (p9 6).A (p9 6).N (p9 6).C],.int .i64 0]) [(0,0,3)] [.bool t,.slice (p9 3).A (p9 3).N (p9 3).C,.slice (p9 6).A (p9 6).N (p9 6).C] (by kernel_rfl) (by kernel_rfl) ⟨⟨_,_,_,_,_,_,rfl,Mine.mono hG.1 z8,Mine.mono hG.2.1 z8⟩,hS.fr⟩
theorem ymake_any (s:Bool) (a1 a2:Option Addr) (n1 n2 c1 c2 x y:Nat) (w:World) (h1:Num w a1 n1 x) (h2:Num w a2 n2 y) (hy:0 < y) :
  Calls Tryz.prog 17 #[.bool s,.agg #[.slice a1 n1 c1],.agg #[.slice a2 n2 c2]] w fun en w'=>(∃ A N C A' N' C',en = .returned (.tuple #[.agg #[.bool (s && !decide (x / Nat.gcd x y = 0)),.slice A N C,.slice A' N' C'],.int .i64 0])∧Mine w' w.heap.size A N C (x / Nat.gcd x y)∧Mine w' w.heap.size A' N' C' (y / Nat.gcd x y))∧Below w.heap.size w w':=by
 have hg:0 < Nat.gcd x y:=Nat.gcd_pos_of_pos_right x hy
 exact zmake_is w s _ a1 a2 n1 n2 c1 c2 x y _ _ _ h1 h2 (by omega) (fun p=>hide (wgcd_ok p x y)) (fun p=>hide (wover_ok p x hg)) (fun p=>hide (wover_ok p y hg)) (fun p=>hide (wfr_ok p s _ _))
theorem zprod_is (w:World) (a1 a2 a3 a4:Option Addr) (n1 n2 n3 n4 c1 c2 c3 c4 m1 d1 m2 d2:Nat) (s t g:Bool) (e f u v x y z dn:Nat) (h1:Num w a1 n1 m1) (h2:Num w a2 n2 d1) (h3:Num w a3 n3 m2) (h4:Num w a4 n4 d2) (H1:∀ p:Nat,Hid (WTwo 40 p m1 d2 e)) (H2:∀ p:Nat,Hid (WTwo 40 p m2 d1 f)) (H3:∀ p:Nat,Hid (WTwo 42 p m1 e u)) (H4:∀ p:Nat,Hid (WTwo 42 p m2 f v)) (H5:∀ p:Nat,Hid (WTwo 52 p u v z)) (H6:∀ p:Nat,Hid (WTwo 42 p d1 f x)) (H7:∀ p:Nat,Hid (WTwo 42 p d2 e y)) (H8:∀ p:Nat,Hid (WTwo 52 p x y dn)) (HF:∀ p:Nat,Hid (WFr p (s != t) z dn g))  :
  Calls Tryz.prog 28 #[.agg #[.bool s,.slice a1 n1 c1,.slice a2 n2 c2,.bool t,.slice a3 n3 c3,.slice a4 n4 c4]] w fun en w'=>(∃ A N C A' N' C',en = .returned (.tuple #[.agg #[.bool g,.slice A N C,.slice A' N' C'],.int .i64 0])∧Mine w' w.heap.size A N C z∧Mine w' w.heap.size A' N' C' dn)∧Below w.heap.size w w':=by
 refine calls_sym Tryz.func28 rfl (by kernel_rfl) fun T hK=>?_
 replace hK:Kn T _ [(0,.agg #[.bool s,.slice a1 n1 c1,.slice a2 n2 c2,.bool t,.slice a3 n3 c3,.slice a4 n4 c4])]:=hK
 have hS:=Fb.begin w
 have hG:GsAt [gN a1 n1 m1,gN a2 n2 d1,gN a3 n3 m2,gN a4 n4 d2] w:=⟨h1,h2,h3,h4,trivial⟩
 refine wq hS hG hK (fun p1=>[.n 1 #[.bool s,.slice a1 n1 c1,.slice a2 n2 c2,.bool t,.slice a3 n3 c3,.slice a4 n4 c4] 66,.n 2 #[.bool false,.slice none 0 0,.slice none 0 0] 30,.v 3 (.int .i64 0)]) (fun p1=>[(1,pT (p1 0).N 0),(2,pT (p1 1).N 0),(3,.int .i64 0)]) (fun p1=>?_) (fun p1 W1 T hF hK=>?_)
 ·iterate 2 refine okn ?_
  refine okv ?_
  exact ok_nil
 replace hS:=SymF.fc hS hF [1000,1001] [⟨(p1 0).N,#[.bool s,.slice a1 n1 c1,.slice a2 n2 c2,.bool t,.slice a3 n3 c3,.slice a4 n4 c4],66,true⟩,⟨(p1 1).N,#[.bool false,.slice none 0 0,.slice none 0 0],30,true⟩]
 replace hG:=hF.gx
 clear hF
 refine wq hS hG hK (fun p2=>[.n 4 #[.int .i64 0] 73]) (fun p2=>[(1,pT (p1 0).N 0),(2,pT (p1 1).N 0),(3,.int .i64 0),(4,pT (p2 0).N 0)]) (fun p2=>?_) (fun p2 W2 T hF hK=>?_)
 ·refine okn ?_
  exact ok_nil
 replace hS:=SymF.fc hS hF [0,1,1000] [⟨(p1 0).N,#[.bool s,.slice a1 n1 c1,.slice a2 n2 c2,.bool t,.slice a3 n3 c3,.slice a4 n4 c4],66,true⟩,⟨(p1 1).N,#[.bool false,.slice none 0 0,.slice none 0 0],30,true⟩,⟨(p2 0).N,#[.int .i64 0],73,true⟩]
 replace hG:=hF.gx
 clear hF
 refine wq hS hG hK (fun p3=>[.v 9 (pT (p1 0).N 0),.v 10 (pT (p1 0).N 1),.l 11 (.agg #[.slice a1 n1 c1]) 0 1,.v 12 (pT (p1 0).N 3),.v 13 (pT (p1 0).N 5),.l 14 (.agg #[.slice a4 n4 c4]) 0 5,.c (some 15) (cN W2.heap.size e),.v 16 (pT (p1 0).N 3),.v 17 (pT (p1 0).N 4),.l 18 (.agg #[.slice a3 n3 c3]) 0 4,.v 19 (pT (p1 0).N 0),.v 20 (pT (p1 0).N 2),.l 21 (.agg #[.slice a2 n2 c2]) 0 2,.c (some 22) (cN W2.heap.size f),.n 5 #[.slice none 0 0] 28,.n 6 #[.slice none 0 0] 28,.p 1014 0 [.slice (p3 6).A (p3 6).N (p3 6).C],.p 1015 0 [.slice (p3 13).A (p3 13).N (p3 13).C]]) (fun p3=>[(1,pT (p1 0).N 0),(2,pT (p1 1).N 0),(3,.int .i64 0),(4,pT (p2 0).N 0),(5,pT (p3 14).N 0),(6,pT (p3 15).N 0)]) (fun p3=>?_) (fun p3 W3 T hF hK=>?_)
 ·iterate 2 refine okv ?_
  refine okl ?_
  iterate 2 refine okv ?_
  refine okl ?_
  refine okc (fun W cx=>as_n cx.hb (unhide (H1 (p2 0).N) _ _ _ c1 _ _ c4 ⟨_,_,cx.B 2 _ rfl (by kernel_rfl) (by kernel_rfl),rfl⟩ (cx.G.1) (cx.G.2.2.2.1))) ?_
  iterate 2 refine okv ?_
  refine okl ?_
  iterate 2 refine okv ?_
  refine okl ?_
  refine okc (fun W cx=>as_n cx.hb (unhide (H2 (p2 0).N) _ _ _ c3 _ _ c2 ⟨_,_,cx.B 2 _ rfl (by kernel_rfl) (by kernel_rfl),rfl⟩ (cx.G.2.2.1) (cx.G.2.1))) ?_
  iterate 2 refine okn ?_
  iterate 2 refine okp ?_
  exact ok_nil
 replace hS:=SymF.fc hS hF [0,1,2,1014,1015] [⟨(p1 0).N,#[.bool s,.slice a1 n1 c1,.slice a2 n2 c2,.bool t,.slice a3 n3 c3,.slice a4 n4 c4],66,true⟩,⟨(p1 1).N,#[.bool false,.slice none 0 0,.slice none 0 0],30,true⟩,⟨(p2 0).N,#[.int .i64 0],73,true⟩,⟨(p3 14).N,#[.slice (p3 6).A (p3 6).N (p3 6).C],28,true⟩,⟨(p3 15).N,#[.slice (p3 13).A (p3 13).N (p3 13).C],28,true⟩]
 replace hG:GsAt (gM W2.heap.size (p3 6).A (p3 6).N (p3 6).C e :: gM W2.heap.size (p3 13).A (p3 13).N (p3 13).C f :: _) W3:=⟨hF.fx 6,hF.fx 13,hF.gx⟩
 clear hF
 have z3:=hS.fr.size
 refine wq hS hG hK (fun p4=>[.v 23 (pT (p1 0).N 0),.v 24 (pT (p1 0).N 1),.l 25 (.agg #[.slice a1 n1 c1]) 0 1,.l 26 (.agg #[.slice (p3 6).A (p3 6).N (p3 6).C]) 3 0,.c (some 27) (cN W3.heap.size u),.v 28 (pT (p1 0).N 3),.v 29 (pT (p1 0).N 4),.l 30 (.agg #[.slice a3 n3 c3]) 0 4,.l 31 (.agg #[.slice (p3 13).A (p3 13).N (p3 13).C]) 4 0,.c (some 32) (cN W3.heap.size v),.c (some 33) (cN W3.heap.size z),.n 7 #[.slice none 0 0] 28,.p 1011 0 [.slice (p4 10).A (p4 10).N (p4 10).C]]) (fun p4=>[(1,pT (p1 0).N 0),(2,pT (p1 1).N 0),(3,.int .i64 0),(4,pT (p2 0).N 0),(5,pT (p3 14).N 0),(6,pT (p3 15).N 0),(7,pT (p4 11).N 0)]) (fun p4=>?_) (fun p4 W4 T hF hK=>?_)
 ·iterate 2 refine okv ?_
  iterate 2 refine okl ?_
  refine okc (fun W cx=>as_n cx.hb (unhide (H3 (p2 0).N) _ _ _ c1 _ _ (p3 6).C ⟨_,_,cx.B 2 _ rfl (by kernel_rfl) (by kernel_rfl),rfl⟩ (cx.G.2.2.1) (Mine.num cx.G.1))) ?_
  iterate 2 refine okv ?_
  iterate 2 refine okl ?_
  refine okc (fun W cx=>as_n cx.hb (unhide (H4 (p2 0).N) _ _ _ c3 _ _ (p3 13).C ⟨_,_,cx.B 2 _ rfl (by kernel_rfl) (by kernel_rfl),rfl⟩ (cx.G.2.2.2.2.1) (Mine.num cx.G.2.1))) ?_
  refine okc (fun W cx=>as_n cx.hb (unhide (H5 (p2 0).N) _ _ _ (p4 4).C _ _ (p4 9).C ⟨_,_,cx.B 2 _ rfl (by kernel_rfl) (by kernel_rfl),rfl⟩ (Mine.num (cx.F 4 (by kernel_rfl))) (Mine.num (cx.F 9 (by kernel_rfl))))) ?_
  refine okn ?_
  refine okp ?_
  exact ok_nil
 replace hS:=SymF.fc hS hF [0,1,2,3,4,1011] [⟨(p1 0).N,#[.bool s,.slice a1 n1 c1,.slice a2 n2 c2,.bool t,.slice a3 n3 c3,.slice a4 n4 c4],66,true⟩,⟨(p1 1).N,#[.bool false,.slice none 0 0,.slice none 0 0],30,true⟩,⟨(p2 0).N,#[.int .i64 0],73,true⟩,⟨(p3 14).N,#[.slice (p3 6).A (p3 6).N (p3 6).C],28,true⟩,⟨(p3 15).N,#[.slice (p3 13).A (p3 13).N (p3 13).C],28,true⟩,⟨(p4 11).N,#[.slice (p4 10).A (p4 10).N (p4 10).C],28,true⟩]
 replace hG:GsAt (gM W3.heap.size (p4 4).A (p4 4).N (p4 4).C u :: gM W3.heap.size (p4 9).A (p4 9).N (p4 9).C v :: gM W3.heap.size (p4 10).A (p4 10).N (p4 10).C z :: _) W4:=⟨hF.fx 4,hF.fx 9,hF.fx 10,hF.gx⟩
 clear hF
 have z4:=hS.fr.size
 refine wq hS hG hK (fun p5=>[.v 34 (pT (p1 0).N 0),.v 35 (pT (p1 0).N 2),.l 36 (.agg #[.slice a2 n2 c2]) 0 2,.l 37 (.agg #[.slice (p3 13).A (p3 13).N (p3 13).C]) 4 0,.c (some 38) (cN W4.heap.size x),.v 39 (pT (p1 0).N 3),.v 40 (pT (p1 0).N 5),.l 41 (.agg #[.slice a4 n4 c4]) 0 5,.l 42 (.agg #[.slice (p3 6).A (p3 6).N (p3 6).C]) 3 0,.c (some 43) (cN W4.heap.size y),.c (some 44) (cN W4.heap.size dn),.n 8 #[.slice none 0 0] 28,.p 1011 0 [.slice (p5 10).A (p5 10).N (p5 10).C]]) (fun p5=>[(1,pT (p1 0).N 0),(2,pT (p1 1).N 0),(3,.int .i64 0),(4,pT (p2 0).N 0),(7,pT (p4 11).N 0),(8,pT (p5 11).N 0)]) (fun p5=>?_) (fun p5 W5 T hF hK=>?_)
 ·iterate 2 refine okv ?_
  iterate 2 refine okl ?_
  refine okc (fun W cx=>as_n cx.hb (unhide (H6 (p2 0).N) _ _ _ c2 _ _ (p3 13).C ⟨_,_,cx.B 2 _ rfl (by kernel_rfl) (by kernel_rfl),rfl⟩ (cx.G.2.2.2.2.2.2.1) (Mine.num cx.G.2.2.2.2.1))) ?_
  iterate 2 refine okv ?_
  iterate 2 refine okl ?_
  refine okc (fun W cx=>as_n cx.hb (unhide (H7 (p2 0).N) _ _ _ c4 _ _ (p3 6).C ⟨_,_,cx.B 2 _ rfl (by kernel_rfl) (by kernel_rfl),rfl⟩ (cx.G.2.2.2.2.2.2.2.2.1) (Mine.num cx.G.2.2.2.1))) ?_
  refine okc (fun W cx=>as_n cx.hb (unhide (H8 (p2 0).N) _ _ _ (p5 4).C _ _ (p5 9).C ⟨_,_,cx.B 2 _ rfl (by kernel_rfl) (by kernel_rfl),rfl⟩ (Mine.num (cx.F 4 (by kernel_rfl))) (Mine.num (cx.F 9 (by kernel_rfl))))) ?_
  refine okn ?_
  refine okp ?_
  exact ok_nil
 replace hS:=SymF.fc hS hF [0,1,2,5,1011] [⟨(p1 0).N,#[.bool s,.slice a1 n1 c1,.slice a2 n2 c2,.bool t,.slice a3 n3 c3,.slice a4 n4 c4],66,true⟩,⟨(p1 1).N,#[.bool false,.slice none 0 0,.slice none 0 0],30,true⟩,⟨(p2 0).N,#[.int .i64 0],73,true⟩,⟨(p4 11).N,#[.slice (p4 10).A (p4 10).N (p4 10).C],28,true⟩,⟨(p5 11).N,#[.slice (p5 10).A (p5 10).N (p5 10).C],28,true⟩]
 replace hG:GsAt (gM W4.heap.size (p5 4).A (p5 4).N (p5 4).C x :: gM W4.heap.size (p5 9).A (p5 9).N (p5 9).C y :: gM W4.heap.size (p5 10).A (p5 10).N (p5 10).C dn :: _) W5:=⟨hF.fx 4,hF.fx 9,hF.fx 10,hF.gx⟩
 clear hF
 refine wq hS hG hK (fun p6=>[.v 45 (pT (p1 0).N 0),.v 46 (pT (p1 0).N 0),.l 47 (.bool s) 0 0,.v 48 (pT (p1 0).N 3),.v 49 (pT (p1 0).N 3),.l 50 (.bool t) 0 3,.v 51 (.bool (s != t)),.l 52 (.agg #[.slice (p4 10).A (p4 10).N (p4 10).C]) 3 0,.l 53 (.agg #[.slice (p5 10).A (p5 10).N (p5 10).C]) 4 0,.u 54 (.tuple #[.agg #[.bool g,.slice (p4 10).A (p4 10).N (p4 10).C,.slice (p5 10).A (p5 10).N (p5 10).C],.int .i64 0]) (aFr g),.v 55 (.agg #[.bool g,.slice (p4 10).A (p4 10).N (p4 10).C,.slice (p5 10).A (p5 10).N (p5 10).C]),.v 56 (.int .i64 0),.p 1 0 [.bool g,.slice (p4 10).A (p4 10).N (p4 10).C,.slice (p5 10).A (p5 10).N (p5 10).C],.v 3 (.int .i64 0)]) (fun p6=>[(2,pT (p1 1).N 0),(3,.int .i64 0)]) (fun p6=>?_) (fun p6 W6 T hF hK=>?_)
 ·iterate 2 refine okv ?_
  refine okl ?_
  iterate 2 refine okv ?_
  refine okl ?_
  refine okv ?_
  iterate 2 refine okl ?_
  refine oku (fun W cx=>unhide (HF (p2 0).N) _ _ _ (p4 10).C _ _ (p5 10).C ⟨_,_,cx.B 2 _ rfl (by kernel_rfl) (by kernel_rfl),rfl⟩ (Mine.num cx.G.2.2.2.2.2.1) (Mine.num cx.G.2.2.1)) ?_
  iterate 2 refine okv ?_
  refine okp ?_
  refine okv ?_
  exact ok_nil
 replace hS:=SymF.fc hS hF [1] [⟨(p1 1).N,#[.bool g,.slice (p4 10).A (p4 10).N (p4 10).C,.slice (p5 10).A (p5 10).N (p5 10).C],30,true⟩]
 replace hG:=hF.gx
 clear hF
 refine wp_ret ?_
 exact sym_end hS hK (.tuple #[.agg #[.bool g,.slice (p4 10).A (p4 10).N (p4 10).C,.slice (p5 10).A (p5 10).N (p5 10).C],.int .i64 0]) [(0,0,3)] [.bool g,.slice (p4 10).A (p4 10).N (p4 10).C,.slice (p5 10).A (p5 10).N (p5 10).C] (by kernel_rfl) (by kernel_rfl) ⟨⟨_,_,_,_,_,_,rfl,Mine.mono hG.2.2.2.2.2.1 z3,Mine.mono hG.2.2.1 z4⟩,hS.fr⟩
theorem zquot_is (w:World) (a1 a2 a3 a4:Option Addr) (n1 n2 n3 n4 c1 c2 c3 c4 m1 d1 m2 d2:Nat) (s t g:Bool) (z dn:Nat) (h1:Num w a1 n1 m1) (h2:Num w a2 n2 d1) (h3:Num w a3 n3 m2) (h4:Num w a4 n4 d2) (hz:m2≠0) (HO:Hid (BSum 28 s t m1 d1 d2 m2 z dn g))  :
  Calls Tryz.prog 27 #[.agg #[.bool s,.slice a1 n1 c1,.slice a2 n2 c2,.bool t,.slice a3 n3 c3,.slice a4 n4 c4]] w fun en w'=>(∃ A N C A' N' C',en = .returned (.tuple #[.agg #[.bool g,.slice A N C,.slice A' N' C'],.int .i64 0])∧Mine w' w.heap.size A N C z∧Mine w' w.heap.size A' N' C' dn)∧Below w.heap.size w w':=by
 refine calls_sym Tryz.func27 rfl (by kernel_rfl) fun T hK=>?_
 replace hK:Kn T _ [(0,.agg #[.bool s,.slice a1 n1 c1,.slice a2 n2 c2,.bool t,.slice a3 n3 c3,.slice a4 n4 c4])]:=hK
 have hS:=Fb.begin w
 have hG:GsAt [gN a1 n1 m1,gN a2 n2 d1,gN a3 n3 m2,gN a4 n4 d2] w:=⟨h1,h2,h3,h4,trivial⟩
 refine wq hS hG hK (fun p1=>[.n 1 #[.bool s,.slice a1 n1 c1,.slice a2 n2 c2,.bool t,.slice a3 n3 c3,.slice a4 n4 c4] 66,.n 2 #[.bool false,.slice none 0 0,.slice none 0 0] 30,.v 3 (.int .i64 0)]) (fun p1=>[(1,pT (p1 0).N 0),(2,pT (p1 1).N 0),(3,.int .i64 0)]) (fun p1=>?_) (fun p1 W1 T hF hK=>?_)
 ·iterate 2 refine okn ?_
  refine okv ?_
  exact ok_nil
 replace hS:=SymF.fc hS hF [1000,1001] [⟨(p1 0).N,#[.bool s,.slice a1 n1 c1,.slice a2 n2 c2,.bool t,.slice a3 n3 c3,.slice a4 n4 c4],66,true⟩,⟨(p1 1).N,#[.bool false,.slice none 0 0,.slice none 0 0],30,true⟩]
 replace hG:=hF.gx
 clear hF
 refine wp_seq ?_
 refine wq hS hG hK (fun p2=>[.v 4 (pT (p1 0).N 3),.v 5 (pT (p1 0).N 4),.l 6 (.agg #[.slice a3 n3 c3]) 0 4,.c (some 7) (cV (.bool false))]) (fun p2=>[(1,pT (p1 0).N 0),(2,pT (p1 1).N 0),(3,.int .i64 0),(7,.bool false)]) (fun p2=>?_) (fun p2 W2 T hF hK=>?_)
 ·iterate 2 refine okv ?_
  refine okl ?_
  refine okc (fun W cx=>as_v (znought a3 _ c3 _ _ ((Num.zdec (cx.G.2.2.1)).trans (decide_eq_false hz)))) ?_
  exact ok_nil
 obtain ⟨hS,hG⟩:=SymF.fg hS hF
 clear hF
 refine wp_cond_false (hK.ew 7) (wp_skip (then_n ?_))
 refine wq hS hG hK (fun p3=>[.v 9 (pT (p1 0).N 3),.v 10 (pT (p1 0).N 5),.l 11 (.agg #[.slice a4 n4 c4]) 0 5,.v 12 (pT (p1 0).N 3),.v 13 (pT (p1 0).N 4),.l 14 (.agg #[.slice a3 n3 c3]) 0 4,.v 15 (pT (p1 0).N 3),.v 16 (pT (p1 0).N 4),.p 0 4 [.slice a4 n4 c4],.v 17 (pT (p1 0).N 3),.v 18 (pT (p1 0).N 5),.p 0 5 [.slice a3 n3 c3]]) (fun p3=>[(1,pT (p1 0).N 0),(2,pT (p1 1).N 0),(3,.int .i64 0)]) (fun p3=>?_) (fun p3 W3 T hF hK=>?_)
 ·iterate 2 refine okv ?_
  refine okl ?_
  iterate 2 refine okv ?_
  refine okl ?_
  iterate 2 refine okv ?_
  refine okp ?_
  iterate 2 refine okv ?_
  refine okp ?_
  exact ok_nil
 replace hS:=SymF.fc hS hF [0,1] [⟨(p1 0).N,#[.bool s,.slice a1 n1 c1,.slice a2 n2 c2,.bool t,.slice a4 n4 c4,.slice a3 n3 c3],66,true⟩,⟨(p1 1).N,#[.bool false,.slice none 0 0,.slice none 0 0],30,true⟩]
 replace hG:=hF.gx
 clear hF
 have z3:=hS.fr.size
 refine wq hS hG hK (fun p4=>[.l 19 (.agg #[.bool s,.slice a1 n1 c1,.slice a2 n2 c2,.bool t,.slice a4 n4 c4,.slice a3 n3 c3]) 0 0,.c (some 20) (cH W3.heap.size z dn fun x9 y9=>.tuple #[.agg #[.bool g,x9,y9],.int .i64 0]),.v 21 (.agg #[.bool g,.slice (p4 1).A (p4 1).N (p4 1).C,.slice (p4 1).A' (p4 1).N' (p4 1).C']),.v 22 (.int .i64 0),.p 1 0 [.bool g,.slice (p4 1).A (p4 1).N (p4 1).C,.slice (p4 1).A' (p4 1).N' (p4 1).C'],.v 3 (.int .i64 0)]) (fun p4=>[(2,pT (p1 1).N 0),(3,.int .i64 0)]) (fun p4=>?_) (fun p4 W4 T hF hK=>?_)
 ·refine okl ?_
  refine okc (fun W cx=>as_h cx.hb (unhide HO _ _ _ c1 _ _ c2 _ _ c4 _ _ c3 (cx.G.1) (cx.G.2.1) (cx.G.2.2.2.1) (cx.G.2.2.1))) ?_
  iterate 2 refine okv ?_
  refine okp ?_
  refine okv ?_
  exact ok_nil
 replace hS:=SymF.fc hS hF [1] [⟨(p1 1).N,#[.bool g,.slice (p4 1).A (p4 1).N (p4 1).C,.slice (p4 1).A' (p4 1).N' (p4 1).C'],30,true⟩]
 replace hG:GsAt (gM W3.heap.size (p4 1).A (p4 1).N (p4 1).C z :: gM W3.heap.size (p4 1).A' (p4 1).N' (p4 1).C' dn :: _) W4:=⟨And.left (hF.fx 1),And.right (hF.fx 1),hF.gx⟩
 clear hF
 refine wp_ret ?_
 exact sym_end hS hK (.tuple #[.agg #[.bool g,.slice (p4 1).A (p4 1).N (p4 1).C,.slice (p4 1).A' (p4 1).N' (p4 1).C'],.int .i64 0]) [(0,0,3)] [.bool g,.slice (p4 1).A (p4 1).N (p4 1).C,.slice (p4 1).A' (p4 1).N' (p4 1).C'] (by kernel_rfl) (by kernel_rfl) ⟨⟨_,_,_,_,_,_,rfl,Mine.mono hG.1 z3,Mine.mono hG.2.1 z3⟩,hS.fr⟩
theorem zchd_mul (w:World) (a1 a2 a3 a4:Option Addr) (n1 n2 n3 n4 c1 c2 c3 c4 m1 d1 m2 d2:Nat) (s t g:Bool) (z dn:Nat) (h1:Num w a1 n1 m1) (h2:Num w a2 n2 d1) (h3:Num w a3 n3 m2) (h4:Num w a4 n4 d2) (C1:Hid (∀ W:World,Num W a1 n1 m1→Num W a2 n2 d1→Calls Tryz.prog 15 #[.agg #[.bool s,.slice a1 n1 c1,.slice a2 n2 c2]] W fun e W'=>e = .returned (.int .i64 0)∧Below W.heap.size W W')) (C2:Hid (∀ W:World,Num W a3 n3 m2→Num W a4 n4 d2→Calls Tryz.prog 15 #[.agg #[.bool t,.slice a3 n3 c3,.slice a4 n4 c4]] W fun e W'=>e = .returned (.int .i64 0)∧Below W.heap.size W W')) (HO:Hid (BSum 28 s t m1 d1 m2 d2 z dn g))  :
  Calls Tryz.prog 29 #[.agg #[.bool s,.slice a1 n1 c1,.slice a2 n2 c2,.bool t,.slice a3 n3 c3,.slice a4 n4 c4],.func (.func 28) #[.agg #[.bool s,.slice a1 n1 c1,.slice a2 n2 c2,.bool t,.slice a3 n3 c3,.slice a4 n4 c4]] #[]] w fun en w'=>(∃ A N C A' N' C',en = .returned (.tuple #[.agg #[.bool g,.slice A N C,.slice A' N' C'],.int .i64 0])∧Mine w' w.heap.size A N C z∧Mine w' w.heap.size A' N' C' dn)∧Below w.heap.size w w':=by
 refine calls_sym Tryz.func29 rfl (by kernel_rfl) fun T hK=>?_
 replace hK:Kn T _ [(0,.agg #[.bool s,.slice a1 n1 c1,.slice a2 n2 c2,.bool t,.slice a3 n3 c3,.slice a4 n4 c4]),(1,.func (.func 28) #[.agg #[.bool s,.slice a1 n1 c1,.slice a2 n2 c2,.bool t,.slice a3 n3 c3,.slice a4 n4 c4]] #[])]:=hK
 have hS:=Fb.begin w
 have hG:GsAt [gN a1 n1 m1,gN a2 n2 d1,gN a3 n3 m2,gN a4 n4 d2] w:=⟨h1,h2,h3,h4,trivial⟩
 refine wq hS hG hK (fun p1=>[.n 2 #[.bool s,.slice a1 n1 c1,.slice a2 n2 c2,.bool t,.slice a3 n3 c3,.slice a4 n4 c4] 66,.n 4 #[.bool false,.slice none 0 0,.slice none 0 0] 30,.v 5 (.int .i64 0)]) (fun p1=>[(1,.func (.func 28) #[.agg #[.bool s,.slice a1 n1 c1,.slice a2 n2 c2,.bool t,.slice a3 n3 c3,.slice a4 n4 c4]] #[]),(2,pT (p1 0).N 0),(4,pT (p1 1).N 0),(5,.int .i64 0)]) (fun p1=>?_) (fun p1 W1 T hF hK=>?_)
 ·iterate 2 refine okn ?_
  refine okv ?_
  exact ok_nil
 replace hS:=SymF.fc hS hF [1000,1001] [⟨(p1 0).N,#[.bool s,.slice a1 n1 c1,.slice a2 n2 c2,.bool t,.slice a3 n3 c3,.slice a4 n4 c4],66,true⟩,⟨(p1 1).N,#[.bool false,.slice none 0 0,.slice none 0 0],30,true⟩]
 replace hG:=hF.gx
 clear hF
 refine wp_seq ?_
 refine wq hS hG hK (fun p2=>[.l 7 (.agg #[.bool s,.slice a1 n1 c1,.slice a2 n2 c2,.bool t,.slice a3 n3 c3,.slice a4 n4 c4]) 0 0,.c (some 8) (cV (.int .i64 0)),.v 6 (.int .i64 0)]) (fun p2=>[(1,.func (.func 28) #[.agg #[.bool s,.slice a1 n1 c1,.slice a2 n2 c2,.bool t,.slice a3 n3 c3,.slice a4 n4 c4]] #[]),(4,pT (p1 1).N 0),(5,.int .i64 0),(6,.int .i64 0)]) (fun p2=>?_) (fun p2 W2 T hF hK=>?_)
 ·refine okl ?_
  refine okc (fun W cx=>as_v (zbck _ _ _ _ _ _ _ _ _ _ _ _ _ _ _ _ _ _ _ (cx.G.1) (cx.G.2.1) (cx.G.2.2.1) (cx.G.2.2.2.1) C1 C2)) ?_
  refine okv ?_
  exact ok_nil
 obtain ⟨hS,hG⟩:=SymF.fg hS hF
 clear hF
 refine wq hS hG hK (fun p3=>[.v 9 (.int .i64 0),.v 10 (.bool false)]) (fun p3=>[(1,.func (.func 28) #[.agg #[.bool s,.slice a1 n1 c1,.slice a2 n2 c2,.bool t,.slice a3 n3 c3,.slice a4 n4 c4]] #[]),(4,pT (p1 1).N 0),(5,.int .i64 0),(6,.int .i64 0),(10,.bool false)]) (fun p3=>?_) (fun p3 W3 T hF hK=>?_)
 ·iterate 2 refine okv ?_
  exact ok_nil
 obtain ⟨hS,hG⟩:=SymF.fg hS hF
 clear hF
 have z3:=hS.fr.size
 refine wp_cond_false (hK.ew 10) (wp_skip (then_n ?_))
 refine wq hS hG hK (fun p4=>[.v 13 (.func (.func 28) #[.agg #[.bool s,.slice a1 n1 c1,.slice a2 n2 c2,.bool t,.slice a3 n3 c3,.slice a4 n4 c4]] #[]),.c (some 14) (cH W3.heap.size z dn fun x9 y9=>.tuple #[.agg #[.bool g,x9,y9],.int .i64 0]),.v 15 (.agg #[.bool g,.slice (p4 1).A (p4 1).N (p4 1).C,.slice (p4 1).A' (p4 1).N' (p4 1).C']),.v 16 (.int .i64 0),.p 1 0 [.bool g,.slice (p4 1).A (p4 1).N (p4 1).C,.slice (p4 1).A' (p4 1).N' (p4 1).C'],.v 5 (.int .i64 0)]) (fun p4=>[(4,pT (p1 1).N 0),(5,.int .i64 0),(6,.int .i64 0)]) (fun p4=>?_) (fun p4 W4 T hF hK=>?_)
 ·refine okv ?_
  refine okc (fun W cx=>as_h cx.hb (unhide HO _ _ _ c1 _ _ c2 _ _ c3 _ _ c4 (cx.G.1) (cx.G.2.1) (cx.G.2.2.1) (cx.G.2.2.2.1))) ?_
  iterate 2 refine okv ?_
  refine okp ?_
  refine okv ?_
  exact ok_nil
 replace hS:=SymF.fc hS hF [1] [⟨(p1 1).N,#[.bool g,.slice (p4 1).A (p4 1).N (p4 1).C,.slice (p4 1).A' (p4 1).N' (p4 1).C'],30,true⟩]
 replace hG:GsAt (gM W3.heap.size (p4 1).A (p4 1).N (p4 1).C z :: gM W3.heap.size (p4 1).A' (p4 1).N' (p4 1).C' dn :: _) W4:=⟨And.left (hF.fx 1),And.right (hF.fx 1),hF.gx⟩
 clear hF
 refine wp_ret ?_
 exact sym_end hS hK (.tuple #[.agg #[.bool g,.slice (p4 1).A (p4 1).N (p4 1).C,.slice (p4 1).A' (p4 1).N' (p4 1).C'],.int .i64 0]) [(0,0,3)] [.bool g,.slice (p4 1).A (p4 1).N (p4 1).C,.slice (p4 1).A' (p4 1).N' (p4 1).C'] (by kernel_rfl) (by kernel_rfl) ⟨⟨_,_,_,_,_,_,rfl,Mine.mono hG.1 z3,Mine.mono hG.2.1 z3⟩,hS.fr⟩
theorem zmul_is (w:World) (a1 a2 a3 a4:Option Addr) (n1 n2 n3 n4 c1 c2 c3 c4 m1 d1 m2 d2:Nat) (s t g:Bool) (z dn:Nat) (h1:Num w a1 n1 m1) (h2:Num w a2 n2 d1) (h3:Num w a3 n3 m2) (h4:Num w a4 n4 d2) (C1:Hid (∀ W:World,Num W a1 n1 m1→Num W a2 n2 d1→Calls Tryz.prog 15 #[.agg #[.bool s,.slice a1 n1 c1,.slice a2 n2 c2]] W fun e W'=>e = .returned (.int .i64 0)∧Below W.heap.size W W')) (C2:Hid (∀ W:World,Num W a3 n3 m2→Num W a4 n4 d2→Calls Tryz.prog 15 #[.agg #[.bool t,.slice a3 n3 c3,.slice a4 n4 c4]] W fun e W'=>e = .returned (.int .i64 0)∧Below W.heap.size W W')) (HO:Hid (BSum 28 s t m1 d1 m2 d2 z dn g))  :
  Calls Tryz.prog 10 #[.agg #[.bool s,.slice a1 n1 c1,.slice a2 n2 c2],.agg #[.bool t,.slice a3 n3 c3,.slice a4 n4 c4]] w fun en w'=>(∃ A N C A' N' C',en = .returned (.tuple #[.agg #[.bool g,.slice A N C,.slice A' N' C'],.int .i64 0])∧Mine w' w.heap.size A N C z∧Mine w' w.heap.size A' N' C' dn)∧Below w.heap.size w w':=by
 refine calls_sym Tryz.func10 rfl (by kernel_rfl) fun T hK=>?_
 replace hK:Kn T _ [(0,.agg #[.bool s,.slice a1 n1 c1,.slice a2 n2 c2]),(1,.agg #[.bool t,.slice a3 n3 c3,.slice a4 n4 c4])]:=hK
 have hS:=Fb.begin w
 have hG:GsAt [gN a1 n1 m1,gN a2 n2 d1,gN a3 n3 m2,gN a4 n4 d2] w:=⟨h1,h2,h3,h4,trivial⟩
 refine wq hS hG hK (fun p1=>[.n 2 #[.bool s,.slice a1 n1 c1,.slice a2 n2 c2] 30,.n 3 #[.bool t,.slice a3 n3 c3,.slice a4 n4 c4] 30,.n 4 #[.bool false,.slice none 0 0,.slice none 0 0] 30,.v 5 (.int .i64 0)]) (fun p1=>[(2,pT (p1 0).N 0),(3,pT (p1 1).N 0),(4,pT (p1 2).N 0),(5,.int .i64 0)]) (fun p1=>?_) (fun p1 W1 T hF hK=>?_)
 ·iterate 3 refine okn ?_
  refine okv ?_
  exact ok_nil
 replace hS:=SymF.fc hS hF [1000,1001,1002] [⟨(p1 0).N,#[.bool s,.slice a1 n1 c1,.slice a2 n2 c2],30,true⟩,⟨(p1 1).N,#[.bool t,.slice a3 n3 c3,.slice a4 n4 c4],30,true⟩,⟨(p1 2).N,#[.bool false,.slice none 0 0,.slice none 0 0],30,true⟩]
 replace hG:=hF.gx
 clear hF
 refine wq hS hG hK (fun p2=>[.l 7 (.agg #[.bool s,.slice a1 n1 c1,.slice a2 n2 c2]) 0 0,.l 8 (.agg #[.bool t,.slice a3 n3 c3,.slice a4 n4 c4]) 1 0,.v 9 (.agg #[.bool s,.slice a1 n1 c1,.slice a2 n2 c2,.bool t,.slice a3 n3 c3,.slice a4 n4 c4]),.n 6 #[.bool false,.slice none 0 0,.slice none 0 0,.bool false,.slice none 0 0,.slice none 0 0] 66,.p 1003 0 [.bool s,.slice a1 n1 c1,.slice a2 n2 c2,.bool t,.slice a3 n3 c3,.slice a4 n4 c4]]) (fun p2=>[(4,pT (p1 2).N 0),(5,.int .i64 0),(6,pT (p2 3).N 0)]) (fun p2=>?_) (fun p2 W2 T hF hK=>?_)
 ·iterate 2 refine okl ?_
  refine okv ?_
  refine okn ?_
  refine okp ?_
  exact ok_nil
 replace hS:=SymF.fc hS hF [2,1003] [⟨(p1 2).N,#[.bool false,.slice none 0 0,.slice none 0 0],30,true⟩,⟨(p2 3).N,#[.bool s,.slice a1 n1 c1,.slice a2 n2 c2,.bool t,.slice a3 n3 c3,.slice a4 n4 c4],66,true⟩]
 replace hG:=hF.gx
 clear hF
 have z2:=hS.fr.size
 refine wq hS hG hK (fun p3=>[.l 10 (.agg #[.bool s,.slice a1 n1 c1,.slice a2 n2 c2,.bool t,.slice a3 n3 c3,.slice a4 n4 c4]) 1 0,.l 11 (.agg #[.bool s,.slice a1 n1 c1,.slice a2 n2 c2,.bool t,.slice a3 n3 c3,.slice a4 n4 c4]) 1 0,.v 12 (.func (.func 28) #[.agg #[.bool s,.slice a1 n1 c1,.slice a2 n2 c2,.bool t,.slice a3 n3 c3,.slice a4 n4 c4]] #[]),.c (some 13) (cH W2.heap.size z dn fun x9 y9=>.tuple #[.agg #[.bool g,x9,y9],.int .i64 0]),.v 14 (.agg #[.bool g,.slice (p3 3).A (p3 3).N (p3 3).C,.slice (p3 3).A' (p3 3).N' (p3 3).C']),.v 15 (.int .i64 0),.p 0 0 [.bool g,.slice (p3 3).A (p3 3).N (p3 3).C,.slice (p3 3).A' (p3 3).N' (p3 3).C'],.v 5 (.int .i64 0)]) (fun p3=>[(4,pT (p1 2).N 0),(5,.int .i64 0)]) (fun p3=>?_) (fun p3 W3 T hF hK=>?_)
 ·iterate 2 refine okl ?_
  refine okv ?_
  refine okc (fun W cx=>as_h cx.hb (zchd_mul _ _ _ _ _ _ _ _ _ _ _ _ _ _ _ _ _ _ _ _ _ _ (cx.G.1) (cx.G.2.1) (cx.G.2.2.1) (cx.G.2.2.2.1) C1 C2 HO)) ?_
  iterate 2 refine okv ?_
  refine okp ?_
  refine okv ?_
  exact ok_nil
 replace hS:=SymF.fc hS hF [0] [⟨(p1 2).N,#[.bool g,.slice (p3 3).A (p3 3).N (p3 3).C,.slice (p3 3).A' (p3 3).N' (p3 3).C'],30,true⟩]
 replace hG:GsAt (gM W2.heap.size (p3 3).A (p3 3).N (p3 3).C z :: gM W2.heap.size (p3 3).A' (p3 3).N' (p3 3).C' dn :: _) W3:=⟨And.left (hF.fx 3),And.right (hF.fx 3),hF.gx⟩
 clear hF
 refine wp_ret ?_
 exact sym_end hS hK (.tuple #[.agg #[.bool g,.slice (p3 3).A (p3 3).N (p3 3).C,.slice (p3 3).A' (p3 3).N' (p3 3).C'],.int .i64 0]) [(0,0,3)] [.bool g,.slice (p3 3).A (p3 3).N (p3 3).C,.slice (p3 3).A' (p3 3).N' (p3 3).C'] (by kernel_rfl) (by kernel_rfl) ⟨⟨_,_,_,_,_,_,rfl,Mine.mono hG.1 z2,Mine.mono hG.2.1 z2⟩,hS.fr⟩
theorem sameNat_some (b off b' off' cap cap' n:Nat) (xs ys:List Nat) (w:World) (hxn:Hid (xs.length = n)) (hyn:Hid (ys.length = n)) (hlt:b < w.heap.size) (hlt':b' < w.heap.size) (hbig:n≤16384)
  (hc:∀ j,j < n→w.cell? ⟨b,off+j,none⟩ = some (.int .u32 ((xs[j]?.getD 0:Nat):Int)))
  (hc':∀ j,j < n→w.cell? ⟨b',off'+j,none⟩ = some (.int .u32 ((ys[j]?.getD 0:Nat):Int))) :
  Calls Tryz.prog 53 #[.agg #[.slice (some ⟨b,off,none⟩) n cap],.agg #[.slice (some ⟨b',off',none⟩) n cap']] w
   fun e w'=>e = .returned (.bool (decide (xs = ys)))∧Below w.heap.size w w':=by
 have hx1:=(Box.made w (.slice (some ⟨b,off,none⟩) n cap)).alloc (.cells #[.slice (some ⟨b',off',none⟩) n cap'] 28)
 have hx2:=Box.made (w.alloc (.cells #[.slice (some ⟨b,off,none⟩) n cap] 28)) (.slice (some ⟨b',off',none⟩) n cap')
 simp only [World.size_alloc] at hx2
 have HB:=gr_trans (gr_alloc w (.cells #[.slice (some ⟨b,off,none⟩) n cap] 28)) (gr_alloc _ (.cells #[.slice (some ⟨b',off',none⟩) n cap'] 28))
 go_enter Tryz.func53,Tryz.ntmps53
 go_wp2
 generalize (w.alloc (.cells #[.slice (some ⟨b,off,none⟩) n cap] 28)).alloc (.cells #[.slice (some ⟨b',off',none⟩) n cap'] 28) = w2 at *
 go_loopw [5] (fun t wr=>∃ k:Nat,k≤n∧t = .int .i64 (k:Int)∧xs.take k = ys.take k∧Below w2.heap.size w2 wr) (fun t _=>n - (intOf t).toNat)
 case atStart=>exact ⟨0,Nat.zero_le _,rfl,by simp,gr_refl _⟩
 case round=>
  obtain ⟨k,hk,rfl,hd,hbel⟩:=hrel
  have hk1:=(hx1.kept hbel).cell
  have hk2:=(hx2.kept hbel).cell
  have hBw:=gr_trans HB hbel
  by_cases hkn:k = n
  ·subst hkn
   have hxl:=unhide hxn
   have hyl:=unhide hyn
   have he:xs = ys:=by
    rw [List.take_of_length_le (by omega),List.take_of_length_le (by omega)] at hd; exact hd
   have HE:=hide he
   have HBw:=hide hBw
   clear hd he hbel hBw hc hc' hxl hyl
   go_wp2
   go_ret
   exact ⟨ret_bool (by simp [unhide HE]),unhide HBw⟩
  ·obtain ⟨x,hxx⟩:∃ x,x = xs[k]?.getD 0:=⟨_,rfl⟩
   obtain ⟨y,hyy⟩:∃ y,y = ys[k]?.getD 0:=⟨_,rfl⟩
   have hcx:wr.cell? ⟨b,off+k,none⟩ = some (.int .u32 (x:Int)):=by rw [hxx]; exact (hBw.cell (by exact hlt)).trans (hc k (by omega))
   have hcy:wr.cell? ⟨b',off'+k,none⟩ = some (.int .u32 (y:Int)):=by rw [hyy]; exact (hBw.cell (by exact hlt')).trans (hc' k (by omega))
   have hxl:=unhide hxn
   have hyl:=unhide hyn
   have hj2:(k:Int) < (n:Int):=by omega
   have HL:Hid (x = y→xs.take (k+1) = ys.take (k+1)):=fun e=>by
    rw [List.take_add_one,List.take_add_one,hd]
    congr 1
    rw [List.getElem?_eq_getElem (by omega:k < xs.length)] at hxx ⊢
    rw [List.getElem?_eq_getElem (by omega:k < ys.length)] at hyy ⊢
    simp at hxx hyy
    simp [← hxx,← hyy,e]
   have HN:Hid (x≠y→xs≠ys):=fun e e2=>e (by rw [hxx,hyy,e2])
   have HBw:=hide hBw
   have HBl:=hide hbel
   clear hxx hyy hd hxl hyl hc hc' hBw hbel
   go_wp2_with fail
   go_quiet (fail)
   by_cases he:x = y
   ·subst he
    go_wp2
    go_roundw
    case rel=>exact ⟨k+1,by omega,by go_num,unhide HL rfl,below_drewN (unhide HBl) _⟩
    case measure=>simp [intOf]; omega
   ·have hf:((x:Int) != (y:Int)) = true:=by simp; omega
    have HE:=hide he
    clear he
    go_wp2
    go_ret
    exact ⟨ret_bool (by simp [unhide HN (unhide HE)]),below_drewN (unhide HBw) _⟩
theorem sameNat_any (a a':Option Addr) (n n' cap cap' m m':Nat) (w:World) (h:Num w a n m) (h':Num w a' n' m') :
  Calls Tryz.prog 53 #[.agg #[.slice a n cap],.agg #[.slice a' n' cap']] w fun e w'=>e = .returned (.bool (decide (m = m')))∧Below w.heap.size w w':=by
 by_cases he:n = n'
 ·subst he
  obtain ⟨xs,hn,hl,hw,hN,hv,hb⟩:=h
  obtain ⟨ys,hn',hl',hw',hN',hv',hb'⟩:=h'
  have hdec:decide (m = m') = decide (xs = ys):=by
   rw [decide_eq_decide]
   exact ⟨fun e=>Pl.val_inj hw hw' hN hN' (by omega),fun e=>by rw [← hv,← hv',e]⟩
  rw [hdec]
  rcases hl.parts with hx|⟨hp,b,off,rfl,hlt,hc⟩
  ·have hn0:n = 0:=by rw [← hn,hx]; rfl
   have hy:ys = []:=List.length_eq_zero_iff.1 (by omega)
   subst hx hy hn0
   clear hn hn' hv hv' hdec
   go_enter Tryz.func53,Tryz.ntmps53
   go_wp2
   refine wp_loop_rounds 1 ?_
   rw [rounds_succ]
   go_wp2
   go_ret
   exact ⟨rfl,gr_trans (gr_alloc _ _) (gr_alloc _ _)⟩
  ·rcases hl'.parts with hy|⟨hp',b',off',rfl,hlt',hc'⟩
   ·rw [hy] at hn'; simp at hn'; omega
   ·exact sameNat_some b off b' off' cap cap' n xs ys w (hide hn) (hide hn') hlt hlt' hb (fun j hj=>hc j (by omega)) (fun j hj=>hc' j (by omega))
 ·have hne:((n:Int) != (n':Int)) = true:=by simp; omega
  have hm:m≠m':=fun e=>he (by subst e; exact h.same h')
  have HM:=hide hm
  clear hm he
  go_enter Tryz.func53,Tryz.ntmps53
  go_wp2
  go_ret
  exact ⟨ret_bool (by simp [unhide HM]),gr_trans (gr_alloc _ _) (gr_alloc _ _)⟩
end Go.Proofs.YtcfccblpcngeaaaGreat
