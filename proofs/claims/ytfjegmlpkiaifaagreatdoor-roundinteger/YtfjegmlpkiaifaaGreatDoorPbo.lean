/- Of what RoundIntegerRow stands on: RzSum RzSub RzAny RyMake RzRat RzDif. -/
import Derived.Test.YtfjegmlpkiaifaaGreatDoorPbn
import Derived.Test.YtfjegmlpkiaifaaGreatDoorPau
import Derived.Test.YtfjegmlpkiaifaaGreatDoorPar
import Derived.Test.YtfjegmlpkiaifaaGreatDoorPav
import Derived.Test.YtfjegmlpkiaifaaGreatDoorPag
import Derived.Test.YtfjegmlpkiaifaaGreatDoorPas
import Derived.Test.YtfjegmlpkiaifaaGreatDoorPaj
import Derived.Test.YtfjegmlpkiaifaaGreatDoorPbd
import Derived.Test.YtfjegmlpkiaifaaGreatDoorPaw
namespace Go.Proofs.YtfjegmlpkiaifaaGreatDoor
open Go.RowKit
set_option maxHeartbeats 2000000
set_option maxRecDepth 20000
def WSum (f:FuncId) (p:Nat) (s t:Bool) (m1 d1 m2 d2 z dn:Nat) (g:Bool):Prop:=∀ (W:World) (a1:Option Addr) (n1 c1:Nat) (a2:Option Addr) (n2 c2:Nat) (a3:Option Addr) (n3 c3:Nat) (a4:Option Addr) (n4 c4:Nat),Rz W p 0→Num W a1 n1 m1→Num W a2 n2 d1→Num W a3 n3 m2→Num W a4 n4 d2→Calls Tryz.prog f #[.pointer (some ⟨p,0,none⟩),.agg #[.bool s,.slice a1 n1 c1,.slice a2 n2 c2,.bool t,.slice a3 n3 c3,.slice a4 n4 c4]] W fun en W'=>(∃ A N C A' N' C',en = .returned (.tuple #[.agg #[.bool g,.slice A N C,.slice A' N' C'],.int .i64 0])∧Mine W' W.heap.size A N C z∧Mine W' W.heap.size A' N' C' dn)∧Below W.heap.size W W'
def BSum (f:FuncId) (s t:Bool) (m1 d1 m2 d2 z dn:Nat) (g:Bool):Prop:=∀ (W:World) (a1:Option Addr) (n1 c1:Nat) (a2:Option Addr) (n2 c2:Nat) (a3:Option Addr) (n3 c3:Nat) (a4:Option Addr) (n4 c4:Nat),Num W a1 n1 m1→Num W a2 n2 d1→Num W a3 n3 m2→Num W a4 n4 d2→Calls Tryz.prog f #[.agg #[.bool s,.slice a1 n1 c1,.slice a2 n2 c2,.bool t,.slice a3 n3 c3,.slice a4 n4 c4]] W fun en W'=>(∃ A N C A' N' C',en = .returned (.tuple #[.agg #[.bool g,.slice A N C,.slice A' N' C'],.int .i64 0])∧Mine W' W.heap.size A N C z∧Mine W' W.heap.size A' N' C' dn)∧Below W.heap.size W W'
theorem zsum_s (w:World) (a1 a2 a3 a4:Option Addr) (n1 n2 n3 n4 c1 c2 c3 c4 m1 d1 m2 d2:Nat) (s g:Bool) (z dn:Nat) (h1:Num w a1 n1 m1) (h2:Num w a2 n2 d1) (h3:Num w a3 n3 m2) (h4:Num w a4 n4 d2) (HT:∀ p:Nat,Hid (WSum 114 p s s m1 d1 m2 d2 z dn g))  :
  Calls Tryz.prog 76 #[.agg #[.bool s,.slice a1 n1 c1,.slice a2 n2 c2,.bool s,.slice a3 n3 c3,.slice a4 n4 c4]] w fun en w'=>(∃ A N C A' N' C',en = .returned (.tuple #[.agg #[.bool g,.slice A N C,.slice A' N' C'],.int .i64 0])∧Mine w' w.heap.size A N C z∧Mine w' w.heap.size A' N' C' dn)∧Below w.heap.size w w':=by
 refine calls_sym Tryz.func76 rfl (by kernel_rfl) fun T hK=>?_
 replace hK:Kn T _ [(0,.agg #[.bool s,.slice a1 n1 c1,.slice a2 n2 c2,.bool s,.slice a3 n3 c3,.slice a4 n4 c4])]:=hK
 have hS:=Fb.begin w
 have hG:GsAt [gN a1 n1 m1,gN a2 n2 d1,gN a3 n3 m2,gN a4 n4 d2] w:=⟨h1,h2,h3,h4,trivial⟩
 refine wq hS hG hK (fun p1=>[.n 1 #[.bool s,.slice a1 n1 c1,.slice a2 n2 c2,.bool s,.slice a3 n3 c3,.slice a4 n4 c4] 67,.n 2 #[.bool false,.slice none 0 0,.slice none 0 0] 28,.v 3 (.int .i64 0)]) (fun p1=>[(1,pT (p1 0).N 0),(2,pT (p1 1).N 0),(3,.int .i64 0)]) (fun p1=>?_) (fun p1 W1 T hF hK=>?_)
 ·iterate 2 refine okn ?_
  refine okv ?_
  exact ok_nil
 replace hS:=SymF.fc hS hF [1000,1001] [⟨(p1 0).N,#[.bool s,.slice a1 n1 c1,.slice a2 n2 c2,.bool s,.slice a3 n3 c3,.slice a4 n4 c4],67,true⟩,⟨(p1 1).N,#[.bool false,.slice none 0 0,.slice none 0 0],28,true⟩]
 replace hG:=hF.gx
 clear hF
 refine wq hS hG hK (fun p2=>[.n 4 #[.int .i64 0] 95]) (fun p2=>[(1,pT (p1 0).N 0),(2,pT (p1 1).N 0),(3,.int .i64 0),(4,pT (p2 0).N 0)]) (fun p2=>?_) (fun p2 W2 T hF hK=>?_)
 ·refine okn ?_
  exact ok_nil
 replace hS:=SymF.fc hS hF [0,1,1000] [⟨(p1 0).N,#[.bool s,.slice a1 n1 c1,.slice a2 n2 c2,.bool s,.slice a3 n3 c3,.slice a4 n4 c4],67,true⟩,⟨(p1 1).N,#[.bool false,.slice none 0 0,.slice none 0 0],28,true⟩,⟨(p2 0).N,#[.int .i64 0],95,true⟩]
 replace hG:=hF.gx
 clear hF
 refine wp_seq ?_
 refine wq hS hG hK (fun p3=>[.v 5 (pT (p1 0).N 0),.v 6 (pT (p1 0).N 0),.l 7 (.bool s) 0 0,.v 8 (pT (p1 0).N 3),.v 9 (pT (p1 0).N 3),.l 10 (.bool s) 0 3,.v 11 (.bool true)]) (fun p3=>[(1,pT (p1 0).N 0),(2,pT (p1 1).N 0),(3,.int .i64 0),(4,pT (p2 0).N 0),(11,.bool true)]) (fun p3=>?_) (fun p3 W3 T hF hK=>?_)
 ·iterate 2 refine okv ?_
  refine okl ?_
  iterate 2 refine okv ?_
  refine okl ?_
  refine okvb (beq_self_eq_true s) ?_
  exact ok_nil
 obtain ⟨hS,hG⟩:=SymF.fg hS hF
 clear hF
 have z3:=hS.fr.size
 refine wp_cond_true (hK.ew 11) ?_
 refine wq hS hG hK (fun p4=>[.l 12 (.agg #[.bool s,.slice a1 n1 c1,.slice a2 n2 c2,.bool s,.slice a3 n3 c3,.slice a4 n4 c4]) 0 0,.c (some 13) (cH W3.heap.size z dn fun x9 y9=>.tuple #[.agg #[.bool g,x9,y9],.int .i64 0]),.v 14 (.agg #[.bool g,.slice (p4 1).A (p4 1).N (p4 1).C,.slice (p4 1).A' (p4 1).N' (p4 1).C']),.v 15 (.int .i64 0),.p 1 0 [.bool g,.slice (p4 1).A (p4 1).N (p4 1).C,.slice (p4 1).A' (p4 1).N' (p4 1).C'],.v 3 (.int .i64 0)]) (fun p4=>[(1,pT (p1 0).N 0),(2,pT (p1 1).N 0),(3,.int .i64 0),(4,pT (p2 0).N 0)]) (fun p4=>?_) (fun p4 W4 T hF hK=>?_)
 ·refine okl ?_
  refine okc (fun W cx=>as_h cx.hb (unhide (HT (p2 0).N) _ _ _ c1 _ _ c2 _ _ c3 _ _ c4 ⟨_,_,cx.B 2 _ rfl (by kernel_rfl) (by kernel_rfl),rfl⟩ (cx.G.1) (cx.G.2.1) (cx.G.2.2.1) (cx.G.2.2.2.1))) ?_
  iterate 2 refine okv ?_
  refine okp ?_
  refine okv ?_
  exact ok_nil
 replace hS:=SymF.fc hS hF [0,1,2] [⟨(p1 0).N,#[.bool s,.slice a1 n1 c1,.slice a2 n2 c2,.bool s,.slice a3 n3 c3,.slice a4 n4 c4],67,true⟩,⟨(p1 1).N,#[.bool g,.slice (p4 1).A (p4 1).N (p4 1).C,.slice (p4 1).A' (p4 1).N' (p4 1).C'],28,true⟩,⟨(p2 0).N,#[.int .i64 0],95,true⟩]
 replace hG:GsAt (gM W3.heap.size (p4 1).A (p4 1).N (p4 1).C z :: gM W3.heap.size (p4 1).A' (p4 1).N' (p4 1).C' dn :: _) W4:=⟨And.left (hF.fx 1),And.right (hF.fx 1),hF.gx⟩
 clear hF
 refine wp_ret ?_
 refine then_r ?_
 exact sym_end hS hK (.tuple #[.agg #[.bool g,.slice (p4 1).A (p4 1).N (p4 1).C,.slice (p4 1).A' (p4 1).N' (p4 1).C'],.int .i64 0]) [(1,0,3)] [.bool g,.slice (p4 1).A (p4 1).N (p4 1).C,.slice (p4 1).A' (p4 1).N' (p4 1).C'] (by kernel_rfl) (by kernel_rfl) ⟨⟨_,_,_,_,_,_,rfl,Mine.mono hG.1 z3,Mine.mono hG.2.1 z3⟩,hS.fr⟩
theorem zsum_d (w:World) (a1 a2 a3 a4:Option Addr) (n1 n2 n3 n4 c1 c2 c3 c4 m1 d1 m2 d2:Nat) (s t g:Bool) (z dn:Nat) (h1:Num w a1 n1 m1) (h2:Num w a2 n2 d1) (h3:Num w a3 n3 m2) (h4:Num w a4 n4 d2) (HT:∀ p:Nat,Hid (WSum 115 p s t m1 d1 m2 d2 z dn g)) (hst:(s == t) = false)  :
  Calls Tryz.prog 76 #[.agg #[.bool s,.slice a1 n1 c1,.slice a2 n2 c2,.bool t,.slice a3 n3 c3,.slice a4 n4 c4]] w fun en w'=>(∃ A N C A' N' C',en = .returned (.tuple #[.agg #[.bool g,.slice A N C,.slice A' N' C'],.int .i64 0])∧Mine w' w.heap.size A N C z∧Mine w' w.heap.size A' N' C' dn)∧Below w.heap.size w w':=by
 refine calls_sym Tryz.func76 rfl (by kernel_rfl) fun T hK=>?_
 replace hK:Kn T _ [(0,.agg #[.bool s,.slice a1 n1 c1,.slice a2 n2 c2,.bool t,.slice a3 n3 c3,.slice a4 n4 c4])]:=hK
 have hS:=Fb.begin w
 have hG:GsAt [gN a1 n1 m1,gN a2 n2 d1,gN a3 n3 m2,gN a4 n4 d2] w:=⟨h1,h2,h3,h4,trivial⟩
 refine wq hS hG hK (fun p1=>[.n 1 #[.bool s,.slice a1 n1 c1,.slice a2 n2 c2,.bool t,.slice a3 n3 c3,.slice a4 n4 c4] 67,.n 2 #[.bool false,.slice none 0 0,.slice none 0 0] 28,.v 3 (.int .i64 0)]) (fun p1=>[(1,pT (p1 0).N 0),(2,pT (p1 1).N 0),(3,.int .i64 0)]) (fun p1=>?_) (fun p1 W1 T hF hK=>?_)
 ·iterate 2 refine okn ?_
  refine okv ?_
  exact ok_nil
 replace hS:=SymF.fc hS hF [1000,1001] [⟨(p1 0).N,#[.bool s,.slice a1 n1 c1,.slice a2 n2 c2,.bool t,.slice a3 n3 c3,.slice a4 n4 c4],67,true⟩,⟨(p1 1).N,#[.bool false,.slice none 0 0,.slice none 0 0],28,true⟩]
 replace hG:=hF.gx
 clear hF
 refine wq hS hG hK (fun p2=>[.n 4 #[.int .i64 0] 95]) (fun p2=>[(1,pT (p1 0).N 0),(2,pT (p1 1).N 0),(3,.int .i64 0),(4,pT (p2 0).N 0)]) (fun p2=>?_) (fun p2 W2 T hF hK=>?_)
 ·refine okn ?_
  exact ok_nil
 replace hS:=SymF.fc hS hF [0,1,1000] [⟨(p1 0).N,#[.bool s,.slice a1 n1 c1,.slice a2 n2 c2,.bool t,.slice a3 n3 c3,.slice a4 n4 c4],67,true⟩,⟨(p1 1).N,#[.bool false,.slice none 0 0,.slice none 0 0],28,true⟩,⟨(p2 0).N,#[.int .i64 0],95,true⟩]
 replace hG:=hF.gx
 clear hF
 refine wp_seq ?_
 refine wq hS hG hK (fun p3=>[.v 5 (pT (p1 0).N 0),.v 6 (pT (p1 0).N 0),.l 7 (.bool s) 0 0,.v 8 (pT (p1 0).N 3),.v 9 (pT (p1 0).N 3),.l 10 (.bool t) 0 3,.v 11 (.bool false)]) (fun p3=>[(1,pT (p1 0).N 0),(2,pT (p1 1).N 0),(3,.int .i64 0),(4,pT (p2 0).N 0),(11,.bool false)]) (fun p3=>?_) (fun p3 W3 T hF hK=>?_)
 ·iterate 2 refine okv ?_
  refine okl ?_
  iterate 2 refine okv ?_
  refine okl ?_
  refine okvb (hst) ?_
  exact ok_nil
 obtain ⟨hS,hG⟩:=SymF.fg hS hF
 clear hF
 have z3:=hS.fr.size
 refine wp_cond_false (hK.ew 11) (wp_skip (then_n ?_))
 refine wq hS hG hK (fun p4=>[.l 16 (.agg #[.bool s,.slice a1 n1 c1,.slice a2 n2 c2,.bool t,.slice a3 n3 c3,.slice a4 n4 c4]) 0 0,.c (some 17) (cH W3.heap.size z dn fun x9 y9=>.tuple #[.agg #[.bool g,x9,y9],.int .i64 0]),.v 18 (.agg #[.bool g,.slice (p4 1).A (p4 1).N (p4 1).C,.slice (p4 1).A' (p4 1).N' (p4 1).C']),.v 19 (.int .i64 0),.p 1 0 [.bool g,.slice (p4 1).A (p4 1).N (p4 1).C,.slice (p4 1).A' (p4 1).N' (p4 1).C'],.v 3 (.int .i64 0)]) (fun p4=>[(1,pT (p1 0).N 0),(2,pT (p1 1).N 0),(3,.int .i64 0),(4,pT (p2 0).N 0)]) (fun p4=>?_) (fun p4 W4 T hF hK=>?_)
 ·refine okl ?_
  refine okc (fun W cx=>as_h cx.hb (unhide (HT (p2 0).N) _ _ _ c1 _ _ c2 _ _ c3 _ _ c4 ⟨_,_,cx.B 2 _ rfl (by kernel_rfl) (by kernel_rfl),rfl⟩ (cx.G.1) (cx.G.2.1) (cx.G.2.2.1) (cx.G.2.2.2.1))) ?_
  iterate 2 refine okv ?_
  refine okp ?_
  refine okv ?_
  exact ok_nil
 replace hS:=SymF.fc hS hF [0,1,2] [⟨(p1 0).N,#[.bool s,.slice a1 n1 c1,.slice a2 n2 c2,.bool t,.slice a3 n3 c3,.slice a4 n4 c4],67,true⟩,⟨(p1 1).N,#[.bool g,.slice (p4 1).A (p4 1).N (p4 1).C,.slice (p4 1).A' (p4 1).N' (p4 1).C'],28,true⟩,⟨(p2 0).N,#[.int .i64 0],95,true⟩]
 replace hG:GsAt (gM W3.heap.size (p4 1).A (p4 1).N (p4 1).C z :: gM W3.heap.size (p4 1).A' (p4 1).N' (p4 1).C' dn :: _) W4:=⟨And.left (hF.fx 1),And.right (hF.fx 1),hF.gx⟩
 clear hF
 refine wp_ret ?_
 exact sym_end hS hK (.tuple #[.agg #[.bool g,.slice (p4 1).A (p4 1).N (p4 1).C,.slice (p4 1).A' (p4 1).N' (p4 1).C'],.int .i64 0]) [(1,0,3)] [.bool g,.slice (p4 1).A (p4 1).N (p4 1).C,.slice (p4 1).A' (p4 1).N' (p4 1).C'] (by kernel_rfl) (by kernel_rfl) ⟨⟨_,_,_,_,_,_,rfl,Mine.mono hG.1 z3,Mine.mono hG.2.1 z3⟩,hS.fr⟩
theorem zdif (w:World) (a1 a2 a3 a4:Option Addr) (n1 n2 n3 n4 c1 c2 c3 c4 m1 d1 m2 d2:Nat) (s t g:Bool) (z dn:Nat) (h1:Num w a1 n1 m1) (h2:Num w a2 n2 d1) (h3:Num w a3 n3 m2) (h4:Num w a4 n4 d2) (HT:Hid (BSum 76 s (!t) m1 d1 m2 d2 z dn g))  :
  Calls Tryz.prog 49 #[.agg #[.bool s,.slice a1 n1 c1,.slice a2 n2 c2,.bool t,.slice a3 n3 c3,.slice a4 n4 c4]] w fun en w'=>(∃ A N C A' N' C',en = .returned (.tuple #[.agg #[.bool g,.slice A N C,.slice A' N' C'],.int .i64 0])∧Mine w' w.heap.size A N C z∧Mine w' w.heap.size A' N' C' dn)∧Below w.heap.size w w':=by
 refine calls_sym Tryz.func49 rfl (by kernel_rfl) fun T hK=>?_
 replace hK:Kn T _ [(0,.agg #[.bool s,.slice a1 n1 c1,.slice a2 n2 c2,.bool t,.slice a3 n3 c3,.slice a4 n4 c4])]:=hK
 have hS:=Fb.begin w
 have hG:GsAt [gN a1 n1 m1,gN a2 n2 d1,gN a3 n3 m2,gN a4 n4 d2] w:=⟨h1,h2,h3,h4,trivial⟩
 refine wq hS hG hK (fun p1=>[.n 1 #[.bool s,.slice a1 n1 c1,.slice a2 n2 c2,.bool t,.slice a3 n3 c3,.slice a4 n4 c4] 67,.n 2 #[.bool false,.slice none 0 0,.slice none 0 0] 28,.v 3 (.int .i64 0)]) (fun p1=>[(1,pT (p1 0).N 0),(2,pT (p1 1).N 0),(3,.int .i64 0)]) (fun p1=>?_) (fun p1 W1 T hF hK=>?_)
 ·iterate 2 refine okn ?_
  refine okv ?_
  exact ok_nil
 replace hS:=SymF.fc hS hF [1000,1001] [⟨(p1 0).N,#[.bool s,.slice a1 n1 c1,.slice a2 n2 c2,.bool t,.slice a3 n3 c3,.slice a4 n4 c4],67,true⟩,⟨(p1 1).N,#[.bool false,.slice none 0 0,.slice none 0 0],28,true⟩]
 replace hG:=hF.gx
 clear hF
 refine wq hS hG hK (fun p2=>[.v 4 (pT (p1 0).N 3),.v 5 (pT (p1 0).N 3),.l 6 (.bool t) 0 3,.v 7 (.bool (!t)),.v 8 (pT (p1 0).N 3),.v 9 (pT (p1 0).N 3),.p 0 3 [.bool (!t)]]) (fun p2=>[(1,pT (p1 0).N 0),(2,pT (p1 1).N 0),(3,.int .i64 0)]) (fun p2=>?_) (fun p2 W2 T hF hK=>?_)
 ·iterate 2 refine okv ?_
  refine okl ?_
  iterate 3 refine okv ?_
  refine okp ?_
  exact ok_nil
 replace hS:=SymF.fc hS hF [0,1] [⟨(p1 0).N,#[.bool s,.slice a1 n1 c1,.slice a2 n2 c2,.bool (!t),.slice a3 n3 c3,.slice a4 n4 c4],67,true⟩,⟨(p1 1).N,#[.bool false,.slice none 0 0,.slice none 0 0],28,true⟩]
 replace hG:=hF.gx
 clear hF
 have z2:=hS.fr.size
 refine wq hS hG hK (fun p3=>[.l 10 (.agg #[.bool s,.slice a1 n1 c1,.slice a2 n2 c2,.bool (!t),.slice a3 n3 c3,.slice a4 n4 c4]) 0 0,.c (some 11) (cH W2.heap.size z dn fun x9 y9=>.tuple #[.agg #[.bool g,x9,y9],.int .i64 0]),.v 12 (.agg #[.bool g,.slice (p3 1).A (p3 1).N (p3 1).C,.slice (p3 1).A' (p3 1).N' (p3 1).C']),.v 13 (.int .i64 0),.p 1 0 [.bool g,.slice (p3 1).A (p3 1).N (p3 1).C,.slice (p3 1).A' (p3 1).N' (p3 1).C'],.v 3 (.int .i64 0)]) (fun p3=>[(2,pT (p1 1).N 0),(3,.int .i64 0)]) (fun p3=>?_) (fun p3 W3 T hF hK=>?_)
 ·refine okl ?_
  refine okc (fun W cx=>as_h cx.hb (unhide HT _ _ _ c1 _ _ c2 _ _ c3 _ _ c4 (cx.G.1) (cx.G.2.1) (cx.G.2.2.1) (cx.G.2.2.2.1))) ?_
  iterate 2 refine okv ?_
  refine okp ?_
  refine okv ?_
  exact ok_nil
 replace hS:=SymF.fc hS hF [1] [⟨(p1 1).N,#[.bool g,.slice (p3 1).A (p3 1).N (p3 1).C,.slice (p3 1).A' (p3 1).N' (p3 1).C'],28,true⟩]
 replace hG:GsAt (gM W2.heap.size (p3 1).A (p3 1).N (p3 1).C z :: gM W2.heap.size (p3 1).A' (p3 1).N' (p3 1).C' dn :: _) W3:=⟨And.left (hF.fx 1),And.right (hF.fx 1),hF.gx⟩
 clear hF
 refine wp_ret ?_
 exact sym_end hS hK (.tuple #[.agg #[.bool g,.slice (p3 1).A (p3 1).N (p3 1).C,.slice (p3 1).A' (p3 1).N' (p3 1).C'],.int .i64 0]) [(0,0,3)] [.bool g,.slice (p3 1).A (p3 1).N (p3 1).C,.slice (p3 1).A' (p3 1).N' (p3 1).C'] (by kernel_rfl) (by kernel_rfl) ⟨⟨_,_,_,_,_,_,rfl,Mine.mono hG.1 z2,Mine.mono hG.2.1 z2⟩,hS.fr⟩
theorem zfra_t (w:World) (p:Nat) (a1 a2:Option Addr) (n1 n2 c1 c2 x y:Nat) (b:Bool) (hR:Rz w p 0) (h1:Num w a1 n1 x) (h2:Num w a2 n2 y) (hz:decide (x = 0) = b)  :
  Calls Tryz.prog 46 #[.pointer (some ⟨p,0,none⟩),.bool true,.agg #[.slice a1 n1 c1],.agg #[.slice a2 n2 c2]] w fun en w'=>en = .returned (.tuple #[.agg #[.bool (!b),.slice a1 n1 c1,.slice a2 n2 c2],.int .i64 0])∧Below w.heap.size w w':=by
 obtain ⟨cs9,t9_,hp,hp0⟩:=hR
 refine calls_sym Tryz.func46 rfl (by kernel_rfl) fun T hK=>?_
 replace hK:Kn T _ [(0,.pointer (some ⟨p,0,none⟩)),(1,.bool true),(2,.agg #[.slice a1 n1 c1]),(3,.agg #[.slice a2 n2 c2])]:=hK
 have hS:=Fb.other hp
 have hG:GsAt [gN a1 n1 x,gN a2 n2 y] w:=⟨h1,h2,trivial⟩
 refine wq hS hG hK (fun p1=>[.n 6 #[.slice a1 n1 c1] 26,.n 7 #[.slice a2 n2 c2] 26,.n 8 #[.bool false,.slice none 0 0,.slice none 0 0] 28,.v 9 (.int .i64 0)]) (fun p1=>[(0,.pointer (some ⟨p,0,none⟩)),(1,.bool true),(6,pT (p1 0).N 0),(7,pT (p1 1).N 0),(8,pT (p1 2).N 0),(9,.int .i64 0)]) (fun p1=>?_) (fun p1 W1 T hF hK=>?_)
 ·iterate 3 refine okn ?_
  refine okv ?_
  exact ok_nil
 replace hS:=SymF.fc hS hF [0,1000,1001,1002] [⟨p,cs9,t9_,false⟩,⟨(p1 0).N,#[.slice a1 n1 c1],26,true⟩,⟨(p1 1).N,#[.slice a2 n2 c2],26,true⟩,⟨(p1 2).N,#[.bool false,.slice none 0 0,.slice none 0 0],28,true⟩]
 replace hG:=hF.gx
 clear hF
 refine wp_seq ?_
 refine wq hS hG hK (fun p2=>[.v 10 (.pointer (some ⟨p,0,none⟩)),.v 11 (.pointer (some ⟨p,0,none⟩)),.v 12 (.pointer (some ⟨p,0,none⟩)),.v 13 (.pointer (some ⟨p,0,none⟩)),.g 14 (.int .i64 0) [.int .i64 0] [.ld ⟨p,0,none⟩ (.int .i64 0)],.v 15 (.bool false)]) (fun p2=>[(0,.pointer (some ⟨p,0,none⟩)),(1,.bool true),(6,pT (p1 0).N 0),(7,pT (p1 1).N 0),(8,pT (p1 2).N 0),(9,.int .i64 0),(15,.bool false)]) (fun p2=>?_) (fun p2 W2 T hF hK=>?_)
 ·iterate 4 refine okv ?_
  refine ok_g (fun W cx=>⟨⟨(Rz.cell (k:=0) ⟨_,_,cx.B 0 _ rfl (by kernel_rfl) (by kernel_rfl),hp0⟩).1,trivial⟩,rfl⟩) (by kernel_rfl) ?_
  refine okv ?_
  exact ok_nil
 obtain ⟨hS,hG⟩:=SymF.fg hS hF
 clear hF
 refine wp_cond_false (hK.ew 15) (wp_skip (then_n ?_))
 refine wq hS hG hK (fun p3=>[.v 22 (.bool true),.v 23 (.bool true),.l 24 (.agg #[.slice a1 n1 c1]) 1 0,.c (some 25) (cV (.bool b)),.v 26 (.bool (!b)),.v 27 (.bool (!b)),.l 28 (.agg #[.slice a1 n1 c1]) 1 0,.l 29 (.agg #[.slice a2 n2 c2]) 2 0,.v 30 (.agg #[.bool (!b),.slice a1 n1 c1,.slice a2 n2 c2]),.p 3 0 [.bool (!b),.slice a1 n1 c1,.slice a2 n2 c2],.v 9 (.int .i64 0)]) (fun p3=>[(0,.pointer (some ⟨p,0,none⟩)),(8,pT (p1 2).N 0),(9,.int .i64 0)]) (fun p3=>?_) (fun p3 W3 T hF hK=>?_)
 ·iterate 2 refine okv ?_
  refine okl ?_
  refine okc (fun W cx=>as_v (znought a1 _ c1 _ _ ((Num.zdec (cx.G.1)).trans hz))) ?_
  iterate 2 refine okv ?_
  iterate 2 refine okl ?_
  refine okv ?_
  refine okp ?_
  refine okv ?_
  exact ok_nil
 replace hS:=SymF.fc hS hF [0,3] [⟨p,cs9,t9_,false⟩,⟨(p1 2).N,#[.bool (!b),.slice a1 n1 c1,.slice a2 n2 c2],28,true⟩]
 replace hG:=hF.gx
 clear hF
 refine wp_ret ?_
 exact sym_end hS hK (.tuple #[.agg #[.bool (!b),.slice a1 n1 c1,.slice a2 n2 c2],.int .i64 0]) [(1,0,3)] [.bool (!b),.slice a1 n1 c1,.slice a2 n2 c2] (by kernel_rfl) (by kernel_rfl) ⟨rfl,hS.fr⟩
theorem zfra_f (w:World) (p:Nat) (a1 a2:Option Addr) (n1 n2 c1 c2 x y:Nat) (hR:Rz w p 0) (h1:Num w a1 n1 x) (h2:Num w a2 n2 y)  :
  Calls Tryz.prog 46 #[.pointer (some ⟨p,0,none⟩),.bool false,.agg #[.slice a1 n1 c1],.agg #[.slice a2 n2 c2]] w fun en w'=>en = .returned (.tuple #[.agg #[.bool false,.slice a1 n1 c1,.slice a2 n2 c2],.int .i64 0])∧Below w.heap.size w w':=by
 obtain ⟨cs9,t9_,hp,hp0⟩:=hR
 refine calls_sym Tryz.func46 rfl (by kernel_rfl) fun T hK=>?_
 replace hK:Kn T _ [(0,.pointer (some ⟨p,0,none⟩)),(1,.bool false),(2,.agg #[.slice a1 n1 c1]),(3,.agg #[.slice a2 n2 c2])]:=hK
 have hS:=Fb.other hp
 have hG:GsAt [gN a1 n1 x,gN a2 n2 y] w:=⟨h1,h2,trivial⟩
 refine wq hS hG hK (fun p1=>[.n 6 #[.slice a1 n1 c1] 26,.n 7 #[.slice a2 n2 c2] 26,.n 8 #[.bool false,.slice none 0 0,.slice none 0 0] 28,.v 9 (.int .i64 0)]) (fun p1=>[(0,.pointer (some ⟨p,0,none⟩)),(1,.bool false),(6,pT (p1 0).N 0),(7,pT (p1 1).N 0),(8,pT (p1 2).N 0),(9,.int .i64 0)]) (fun p1=>?_) (fun p1 W1 T hF hK=>?_)
 ·iterate 3 refine okn ?_
  refine okv ?_
  exact ok_nil
 replace hS:=SymF.fc hS hF [0,1000,1001,1002] [⟨p,cs9,t9_,false⟩,⟨(p1 0).N,#[.slice a1 n1 c1],26,true⟩,⟨(p1 1).N,#[.slice a2 n2 c2],26,true⟩,⟨(p1 2).N,#[.bool false,.slice none 0 0,.slice none 0 0],28,true⟩]
 replace hG:=hF.gx
 clear hF
 refine wp_seq ?_
 refine wq hS hG hK (fun p2=>[.v 10 (.pointer (some ⟨p,0,none⟩)),.v 11 (.pointer (some ⟨p,0,none⟩)),.v 12 (.pointer (some ⟨p,0,none⟩)),.v 13 (.pointer (some ⟨p,0,none⟩)),.g 14 (.int .i64 0) [.int .i64 0] [.ld ⟨p,0,none⟩ (.int .i64 0)],.v 15 (.bool false)]) (fun p2=>[(0,.pointer (some ⟨p,0,none⟩)),(1,.bool false),(6,pT (p1 0).N 0),(7,pT (p1 1).N 0),(8,pT (p1 2).N 0),(9,.int .i64 0),(15,.bool false)]) (fun p2=>?_) (fun p2 W2 T hF hK=>?_)
 ·iterate 4 refine okv ?_
  refine ok_g (fun W cx=>⟨⟨(Rz.cell (k:=0) ⟨_,_,cx.B 0 _ rfl (by kernel_rfl) (by kernel_rfl),hp0⟩).1,trivial⟩,rfl⟩) (by kernel_rfl) ?_
  refine okv ?_
  exact ok_nil
 obtain ⟨hS,hG⟩:=SymF.fg hS hF
 clear hF
 refine wp_cond_false (hK.ew 15) (wp_skip (then_n ?_))
 refine wq hS hG hK (fun p3=>[.v 22 (.bool false),.v 23 (.bool false),.k (some 24),.k (some 25),.k (some 26),.v 27 (.bool false),.l 28 (.agg #[.slice a1 n1 c1]) 1 0,.l 29 (.agg #[.slice a2 n2 c2]) 2 0,.v 30 (.agg #[.bool false,.slice a1 n1 c1,.slice a2 n2 c2]),.p 3 0 [.bool false,.slice a1 n1 c1,.slice a2 n2 c2],.v 9 (.int .i64 0)]) (fun p3=>[(0,.pointer (some ⟨p,0,none⟩)),(8,pT (p1 2).N 0),(9,.int .i64 0)]) (fun p3=>?_) (fun p3 W3 T hF hK=>?_)
 ·iterate 2 refine okv ?_
  iterate 3 refine okk ?_
  refine okv ?_
  iterate 2 refine okl ?_
  refine okv ?_
  refine okp ?_
  refine okv ?_
  exact ok_nil
 replace hS:=SymF.fc hS hF [0,3] [⟨p,cs9,t9_,false⟩,⟨(p1 2).N,#[.bool false,.slice a1 n1 c1,.slice a2 n2 c2],28,true⟩]
 replace hG:=hF.gx
 clear hF
 refine wp_ret ?_
 exact sym_end hS hK (.tuple #[.agg #[.bool false,.slice a1 n1 c1,.slice a2 n2 c2],.int .i64 0]) [(1,0,3)] [.bool false,.slice a1 n1 c1,.slice a2 n2 c2] (by kernel_rfl) (by kernel_rfl) ⟨rfl,hS.fr⟩
theorem zbck (w:World) (a1 a2 a3 a4:Option Addr) (n1 n2 n3 n4 c1 c2 c3 c4 m1 d1 m2 d2:Nat) (s t:Bool) (h1:Num w a1 n1 m1) (h2:Num w a2 n2 d1) (h3:Num w a3 n3 m2) (h4:Num w a4 n4 d2) (C1:Hid (∀ W:World,Num W a1 n1 m1→Num W a2 n2 d1→Calls Tryz.prog 20 #[.agg #[.bool s,.slice a1 n1 c1,.slice a2 n2 c2]] W fun e W'=>e = .returned (.int .i64 0)∧Below W.heap.size W W')) (C2:Hid (∀ W:World,Num W a3 n3 m2→Num W a4 n4 d2→Calls Tryz.prog 20 #[.agg #[.bool t,.slice a3 n3 c3,.slice a4 n4 c4]] W fun e W'=>e = .returned (.int .i64 0)∧Below W.heap.size W W'))  :
  Calls Tryz.prog 25 #[.agg #[.bool s,.slice a1 n1 c1,.slice a2 n2 c2,.bool t,.slice a3 n3 c3,.slice a4 n4 c4]] w fun en w'=>en = .returned (.int .i64 0)∧Below w.heap.size w w':=by
 refine calls_sym Tryz.func25 rfl (by kernel_rfl) fun T hK=>?_
 replace hK:Kn T _ [(0,.agg #[.bool s,.slice a1 n1 c1,.slice a2 n2 c2,.bool t,.slice a3 n3 c3,.slice a4 n4 c4])]:=hK
 have hS:=Fb.begin w
 have hG:GsAt [gN a1 n1 m1,gN a2 n2 d1,gN a3 n3 m2,gN a4 n4 d2] w:=⟨h1,h2,h3,h4,trivial⟩
 refine wq hS hG hK (fun p1=>[.n 1 #[.bool s,.slice a1 n1 c1,.slice a2 n2 c2,.bool t,.slice a3 n3 c3,.slice a4 n4 c4] 67,.v 2 (.int .i64 0)]) (fun p1=>[(1,pT (p1 0).N 0),(2,.int .i64 0)]) (fun p1=>?_) (fun p1 W1 T hF hK=>?_)
 ·refine okn ?_
  refine okv ?_
  exact ok_nil
 replace hS:=SymF.fc hS hF [1000] [⟨(p1 0).N,#[.bool s,.slice a1 n1 c1,.slice a2 n2 c2,.bool t,.slice a3 n3 c3,.slice a4 n4 c4],67,true⟩]
 replace hG:=hF.gx
 clear hF
 refine wp_seq ?_
 refine wq hS hG hK (fun p2=>[.v 4 (pT (p1 0).N 0),.l 5 (.agg #[.bool s,.slice a1 n1 c1,.slice a2 n2 c2]) 0 0,.c (some 6) (cV (.int .i64 0)),.v 3 (.int .i64 0)]) (fun p2=>[(1,pT (p1 0).N 0),(2,.int .i64 0),(3,.int .i64 0)]) (fun p2=>?_) (fun p2 W2 T hF hK=>?_)
 ·refine okv ?_
  refine okl ?_
  refine okc (fun W cx=>as_v (unhide C1 _ (cx.G.1) (cx.G.2.1))) ?_
  refine okv ?_
  exact ok_nil
 obtain ⟨hS,hG⟩:=SymF.fg hS hF
 clear hF
 refine wq hS hG hK (fun p3=>[.v 7 (.int .i64 0),.v 8 (.bool false)]) (fun p3=>[(1,pT (p1 0).N 0),(2,.int .i64 0),(3,.int .i64 0),(8,.bool false)]) (fun p3=>?_) (fun p3 W3 T hF hK=>?_)
 ·iterate 2 refine okv ?_
  exact ok_nil
 obtain ⟨hS,hG⟩:=SymF.fg hS hF
 clear hF
 refine wp_cond_false (hK.ew 8) (wp_skip (then_n ?_))
 refine wq hS hG hK (fun p4=>[.v 10 (pT (p1 0).N 3),.l 11 (.agg #[.bool t,.slice a3 n3 c3,.slice a4 n4 c4]) 0 3,.c (some 12) (cV (.int .i64 0)),.v 2 (.int .i64 0)]) (fun p4=>[(2,.int .i64 0),(3,.int .i64 0)]) (fun p4=>?_) (fun p4 W4 T hF hK=>?_)
 ·refine okv ?_
  refine okl ?_
  refine okc (fun W cx=>as_v (unhide C2 _ (cx.G.2.2.1) (cx.G.2.2.2.1))) ?_
  refine okv ?_
  exact ok_nil
 obtain ⟨hS,hG⟩:=SymF.fg hS hF
 clear hF
 refine wp_ret ?_
 exact sym_end hS hK (.int .i64 0) [] [] (by kernel_rfl) (by kernel_rfl) ⟨rfl,hS.fr⟩
theorem zchd_sub (w:World) (a1 a2 a3 a4:Option Addr) (n1 n2 n3 n4 c1 c2 c3 c4 m1 d1 m2 d2:Nat) (s t g:Bool) (z dn:Nat) (h1:Num w a1 n1 m1) (h2:Num w a2 n2 d1) (h3:Num w a3 n3 m2) (h4:Num w a4 n4 d2) (C1:Hid (∀ W:World,Num W a1 n1 m1→Num W a2 n2 d1→Calls Tryz.prog 20 #[.agg #[.bool s,.slice a1 n1 c1,.slice a2 n2 c2]] W fun e W'=>e = .returned (.int .i64 0)∧Below W.heap.size W W')) (C2:Hid (∀ W:World,Num W a3 n3 m2→Num W a4 n4 d2→Calls Tryz.prog 20 #[.agg #[.bool t,.slice a3 n3 c3,.slice a4 n4 c4]] W fun e W'=>e = .returned (.int .i64 0)∧Below W.heap.size W W')) (HO:Hid (BSum 49 s t m1 d1 m2 d2 z dn g))  :
  Calls Tryz.prog 48 #[.agg #[.bool s,.slice a1 n1 c1,.slice a2 n2 c2,.bool t,.slice a3 n3 c3,.slice a4 n4 c4],.func (.func 49) #[.agg #[.bool s,.slice a1 n1 c1,.slice a2 n2 c2,.bool t,.slice a3 n3 c3,.slice a4 n4 c4]] #[]] w fun en w'=>(∃ A N C A' N' C',en = .returned (.tuple #[.agg #[.bool g,.slice A N C,.slice A' N' C'],.int .i64 0])∧Mine w' w.heap.size A N C z∧Mine w' w.heap.size A' N' C' dn)∧Below w.heap.size w w':=by
 refine calls_sym Tryz.func48 rfl (by kernel_rfl) fun T hK=>?_
 replace hK:Kn T _ [(0,.agg #[.bool s,.slice a1 n1 c1,.slice a2 n2 c2,.bool t,.slice a3 n3 c3,.slice a4 n4 c4]),(1,.func (.func 49) #[.agg #[.bool s,.slice a1 n1 c1,.slice a2 n2 c2,.bool t,.slice a3 n3 c3,.slice a4 n4 c4]] #[])]:=hK
 have hS:=Fb.begin w
 have hG:GsAt [gN a1 n1 m1,gN a2 n2 d1,gN a3 n3 m2,gN a4 n4 d2] w:=⟨h1,h2,h3,h4,trivial⟩
 refine wq hS hG hK (fun p1=>[.n 2 #[.bool s,.slice a1 n1 c1,.slice a2 n2 c2,.bool t,.slice a3 n3 c3,.slice a4 n4 c4] 67,.n 4 #[.bool false,.slice none 0 0,.slice none 0 0] 28,.v 5 (.int .i64 0)]) (fun p1=>[(1,.func (.func 49) #[.agg #[.bool s,.slice a1 n1 c1,.slice a2 n2 c2,.bool t,.slice a3 n3 c3,.slice a4 n4 c4]] #[]),(2,pT (p1 0).N 0),(4,pT (p1 1).N 0),(5,.int .i64 0)]) (fun p1=>?_) (fun p1 W1 T hF hK=>?_)
 ·iterate 2 refine okn ?_
  refine okv ?_
  exact ok_nil
 replace hS:=SymF.fc hS hF [1000,1001] [⟨(p1 0).N,#[.bool s,.slice a1 n1 c1,.slice a2 n2 c2,.bool t,.slice a3 n3 c3,.slice a4 n4 c4],67,true⟩,⟨(p1 1).N,#[.bool false,.slice none 0 0,.slice none 0 0],28,true⟩]
 replace hG:=hF.gx
 clear hF
 refine wp_seq ?_
 refine wq hS hG hK (fun p2=>[.l 7 (.agg #[.bool s,.slice a1 n1 c1,.slice a2 n2 c2,.bool t,.slice a3 n3 c3,.slice a4 n4 c4]) 0 0,.c (some 8) (cV (.int .i64 0)),.v 6 (.int .i64 0)]) (fun p2=>[(1,.func (.func 49) #[.agg #[.bool s,.slice a1 n1 c1,.slice a2 n2 c2,.bool t,.slice a3 n3 c3,.slice a4 n4 c4]] #[]),(4,pT (p1 1).N 0),(5,.int .i64 0),(6,.int .i64 0)]) (fun p2=>?_) (fun p2 W2 T hF hK=>?_)
 ·refine okl ?_
  refine okc (fun W cx=>as_v (zbck _ _ _ _ _ _ _ _ _ _ _ _ _ _ _ _ _ _ _ (cx.G.1) (cx.G.2.1) (cx.G.2.2.1) (cx.G.2.2.2.1) C1 C2)) ?_
  refine okv ?_
  exact ok_nil
 obtain ⟨hS,hG⟩:=SymF.fg hS hF
 clear hF
 refine wq hS hG hK (fun p3=>[.v 9 (.int .i64 0),.v 10 (.bool false)]) (fun p3=>[(1,.func (.func 49) #[.agg #[.bool s,.slice a1 n1 c1,.slice a2 n2 c2,.bool t,.slice a3 n3 c3,.slice a4 n4 c4]] #[]),(4,pT (p1 1).N 0),(5,.int .i64 0),(6,.int .i64 0),(10,.bool false)]) (fun p3=>?_) (fun p3 W3 T hF hK=>?_)
 ·iterate 2 refine okv ?_
  exact ok_nil
 obtain ⟨hS,hG⟩:=SymF.fg hS hF
 clear hF
 have z3:=hS.fr.size
 refine wp_cond_false (hK.ew 10) (wp_skip (then_n ?_))
 refine wq hS hG hK (fun p4=>[.v 13 (.func (.func 49) #[.agg #[.bool s,.slice a1 n1 c1,.slice a2 n2 c2,.bool t,.slice a3 n3 c3,.slice a4 n4 c4]] #[]),.c (some 14) (cH W3.heap.size z dn fun x9 y9=>.tuple #[.agg #[.bool g,x9,y9],.int .i64 0]),.v 15 (.agg #[.bool g,.slice (p4 1).A (p4 1).N (p4 1).C,.slice (p4 1).A' (p4 1).N' (p4 1).C']),.v 16 (.int .i64 0),.p 1 0 [.bool g,.slice (p4 1).A (p4 1).N (p4 1).C,.slice (p4 1).A' (p4 1).N' (p4 1).C'],.v 5 (.int .i64 0)]) (fun p4=>[(4,pT (p1 1).N 0),(5,.int .i64 0),(6,.int .i64 0)]) (fun p4=>?_) (fun p4 W4 T hF hK=>?_)
 ·refine okv ?_
  refine okc (fun W cx=>as_h cx.hb (unhide HO _ _ _ c1 _ _ c2 _ _ c3 _ _ c4 (cx.G.1) (cx.G.2.1) (cx.G.2.2.1) (cx.G.2.2.2.1))) ?_
  iterate 2 refine okv ?_
  refine okp ?_
  refine okv ?_
  exact ok_nil
 replace hS:=SymF.fc hS hF [1] [⟨(p1 1).N,#[.bool g,.slice (p4 1).A (p4 1).N (p4 1).C,.slice (p4 1).A' (p4 1).N' (p4 1).C'],28,true⟩]
 replace hG:GsAt (gM W3.heap.size (p4 1).A (p4 1).N (p4 1).C z :: gM W3.heap.size (p4 1).A' (p4 1).N' (p4 1).C' dn :: _) W4:=⟨And.left (hF.fx 1),And.right (hF.fx 1),hF.gx⟩
 clear hF
 refine wp_ret ?_
 exact sym_end hS hK (.tuple #[.agg #[.bool g,.slice (p4 1).A (p4 1).N (p4 1).C,.slice (p4 1).A' (p4 1).N' (p4 1).C'],.int .i64 0]) [(0,0,3)] [.bool g,.slice (p4 1).A (p4 1).N (p4 1).C,.slice (p4 1).A' (p4 1).N' (p4 1).C'] (by kernel_rfl) (by kernel_rfl) ⟨⟨_,_,_,_,_,_,rfl,Mine.mono hG.1 z3,Mine.mono hG.2.1 z3⟩,hS.fr⟩
theorem zsub_is (w:World) (a1 a2 a3 a4:Option Addr) (n1 n2 n3 n4 c1 c2 c3 c4 m1 d1 m2 d2:Nat) (s t g:Bool) (z dn:Nat) (h1:Num w a1 n1 m1) (h2:Num w a2 n2 d1) (h3:Num w a3 n3 m2) (h4:Num w a4 n4 d2) (C1:Hid (∀ W:World,Num W a1 n1 m1→Num W a2 n2 d1→Calls Tryz.prog 20 #[.agg #[.bool s,.slice a1 n1 c1,.slice a2 n2 c2]] W fun e W'=>e = .returned (.int .i64 0)∧Below W.heap.size W W')) (C2:Hid (∀ W:World,Num W a3 n3 m2→Num W a4 n4 d2→Calls Tryz.prog 20 #[.agg #[.bool t,.slice a3 n3 c3,.slice a4 n4 c4]] W fun e W'=>e = .returned (.int .i64 0)∧Below W.heap.size W W')) (HO:Hid (BSum 49 s t m1 d1 m2 d2 z dn g))  :
  Calls Tryz.prog 15 #[.agg #[.bool s,.slice a1 n1 c1,.slice a2 n2 c2],.agg #[.bool t,.slice a3 n3 c3,.slice a4 n4 c4]] w fun en w'=>(∃ A N C A' N' C',en = .returned (.tuple #[.agg #[.bool g,.slice A N C,.slice A' N' C'],.int .i64 0])∧Mine w' w.heap.size A N C z∧Mine w' w.heap.size A' N' C' dn)∧Below w.heap.size w w':=by
 refine calls_sym Tryz.func15 rfl (by kernel_rfl) fun T hK=>?_
 replace hK:Kn T _ [(0,.agg #[.bool s,.slice a1 n1 c1,.slice a2 n2 c2]),(1,.agg #[.bool t,.slice a3 n3 c3,.slice a4 n4 c4])]:=hK
 have hS:=Fb.begin w
 have hG:GsAt [gN a1 n1 m1,gN a2 n2 d1,gN a3 n3 m2,gN a4 n4 d2] w:=⟨h1,h2,h3,h4,trivial⟩
 refine wq hS hG hK (fun p1=>[.n 2 #[.bool s,.slice a1 n1 c1,.slice a2 n2 c2] 28,.n 3 #[.bool t,.slice a3 n3 c3,.slice a4 n4 c4] 28,.n 4 #[.bool false,.slice none 0 0,.slice none 0 0] 28,.v 5 (.int .i64 0)]) (fun p1=>[(2,pT (p1 0).N 0),(3,pT (p1 1).N 0),(4,pT (p1 2).N 0),(5,.int .i64 0)]) (fun p1=>?_) (fun p1 W1 T hF hK=>?_)
 ·iterate 3 refine okn ?_
  refine okv ?_
  exact ok_nil
 replace hS:=SymF.fc hS hF [1000,1001,1002] [⟨(p1 0).N,#[.bool s,.slice a1 n1 c1,.slice a2 n2 c2],28,true⟩,⟨(p1 1).N,#[.bool t,.slice a3 n3 c3,.slice a4 n4 c4],28,true⟩,⟨(p1 2).N,#[.bool false,.slice none 0 0,.slice none 0 0],28,true⟩]
 replace hG:=hF.gx
 clear hF
 refine wq hS hG hK (fun p2=>[.l 7 (.agg #[.bool s,.slice a1 n1 c1,.slice a2 n2 c2]) 0 0,.l 8 (.agg #[.bool t,.slice a3 n3 c3,.slice a4 n4 c4]) 1 0,.v 9 (.agg #[.bool s,.slice a1 n1 c1,.slice a2 n2 c2,.bool t,.slice a3 n3 c3,.slice a4 n4 c4]),.n 6 #[.bool false,.slice none 0 0,.slice none 0 0,.bool false,.slice none 0 0,.slice none 0 0] 67,.p 1003 0 [.bool s,.slice a1 n1 c1,.slice a2 n2 c2,.bool t,.slice a3 n3 c3,.slice a4 n4 c4]]) (fun p2=>[(4,pT (p1 2).N 0),(5,.int .i64 0),(6,pT (p2 3).N 0)]) (fun p2=>?_) (fun p2 W2 T hF hK=>?_)
 ·iterate 2 refine okl ?_
  refine okv ?_
  refine okn ?_
  refine okp ?_
  exact ok_nil
 replace hS:=SymF.fc hS hF [2,1003] [⟨(p1 2).N,#[.bool false,.slice none 0 0,.slice none 0 0],28,true⟩,⟨(p2 3).N,#[.bool s,.slice a1 n1 c1,.slice a2 n2 c2,.bool t,.slice a3 n3 c3,.slice a4 n4 c4],67,true⟩]
 replace hG:=hF.gx
 clear hF
 have z2:=hS.fr.size
 refine wq hS hG hK (fun p3=>[.l 10 (.agg #[.bool s,.slice a1 n1 c1,.slice a2 n2 c2,.bool t,.slice a3 n3 c3,.slice a4 n4 c4]) 1 0,.l 11 (.agg #[.bool s,.slice a1 n1 c1,.slice a2 n2 c2,.bool t,.slice a3 n3 c3,.slice a4 n4 c4]) 1 0,.v 12 (.func (.func 49) #[.agg #[.bool s,.slice a1 n1 c1,.slice a2 n2 c2,.bool t,.slice a3 n3 c3,.slice a4 n4 c4]] #[]),.c (some 13) (cH W2.heap.size z dn fun x9 y9=>.tuple #[.agg #[.bool g,x9,y9],.int .i64 0]),.v 14 (.agg #[.bool g,.slice (p3 3).A (p3 3).N (p3 3).C,.slice (p3 3).A' (p3 3).N' (p3 3).C']),.v 15 (.int .i64 0),.p 0 0 [.bool g,.slice (p3 3).A (p3 3).N (p3 3).C,.slice (p3 3).A' (p3 3).N' (p3 3).C'],.v 5 (.int .i64 0)]) (fun p3=>[(4,pT (p1 2).N 0),(5,.int .i64 0)]) (fun p3=>?_) (fun p3 W3 T hF hK=>?_)
 ·iterate 2 refine okl ?_
  refine okv ?_
  refine okc (fun W cx=>as_h cx.hb (zchd_sub _ _ _ _ _ _ _ _ _ _ _ _ _ _ _ _ _ _ _ _ _ _ (cx.G.1) (cx.G.2.1) (cx.G.2.2.1) (cx.G.2.2.2.1) C1 C2 HO)) ?_
  iterate 2 refine okv ?_
  refine okp ?_
  refine okv ?_
  exact ok_nil
 replace hS:=SymF.fc hS hF [0] [⟨(p1 2).N,#[.bool g,.slice (p3 3).A (p3 3).N (p3 3).C,.slice (p3 3).A' (p3 3).N' (p3 3).C'],28,true⟩]
 replace hG:GsAt (gM W2.heap.size (p3 3).A (p3 3).N (p3 3).C z :: gM W2.heap.size (p3 3).A' (p3 3).N' (p3 3).C' dn :: _) W3:=⟨And.left (hF.fx 3),And.right (hF.fx 3),hF.gx⟩
 clear hF
 refine wp_ret ?_
 exact sym_end hS hK (.tuple #[.agg #[.bool g,.slice (p3 3).A (p3 3).N (p3 3).C,.slice (p3 3).A' (p3 3).N' (p3 3).C'],.int .i64 0]) [(0,0,3)] [.bool g,.slice (p3 3).A (p3 3).N (p3 3).C,.slice (p3 3).A' (p3 3).N' (p3 3).C'] (by kernel_rfl) (by kernel_rfl) ⟨⟨_,_,_,_,_,_,rfl,Mine.mono hG.1 z2,Mine.mono hG.2.1 z2⟩,hS.fr⟩
theorem zans {w:World} {base:Nat} {e:Ending} {m:Nat} (h:Ans w base e m) (hn:¬ Over m):∃ a n cap,e = .returned (.tuple #[.agg #[.slice a n cap],.int .i64 0])∧Mine w base a n cap m:=by
 rcases h with h|h
 ·exact h
 ·exact absurd h.2 hn
theorem wadd_ok (p:Nat) {x y:Nat} (ho:¬ Over (x+y)):WTwo 135 p x y (x+y):=fun W a n c a' n' c' hR h h'=>
 zadd W p a a' n n' c c' x y _ hR h h' (hide fun W a n c a' n' c' h h'=>(add_any a a' n n' c c' x y W h h').mono fun _ _ ⟨k,hb⟩=>⟨zans k ho,hb⟩)
theorem wmul_ok (p:Nat) {x y:Nat} (ho:¬ Over (x * y)):WTwo 62 p x y (x * y):=fun W a n c a' n' c' hR h h'=>
 zmul W p a a' n n' c c' x y _ hR h h' (hide fun W a n c a' n' c' h h'=>(mul_any a a' n n' c c' x y W h h').mono fun _ _ ⟨k,hb⟩=>⟨zans k ho,hb⟩)
theorem wgcd_ok (p x y:Nat):WTwo 45 p x y (Nat.gcd x y):=fun W a n c a' n' c' hR h h'=>
 zgcd W p a a' n n' c c' x y _ hR h h' (hide fun W a n c a' n' c' h h'=>gcd_any a a' n n' c c' x y W h h')
theorem wsub_ok (p:Nat) {x y:Nat} (hy:y≤x):WTwo 141 p x y (x - y):=fun W a n c a' n' c' hR h h'=>
 zsub W p a a' n n' c c' x y _ true hR h h' (hide fun W a n c a' n' c' h h'=>(sub_any a a' n n' c c' x y W h h').mono fun _ _ ⟨k,hb⟩=>⟨by
  rcases k with ⟨k,_⟩|⟨_,k⟩
  ·omega
  ·exact k,hb⟩)
theorem wdiv_ok (p x:Nat) {y:Nat} (hy:0 < y):WDiv p x y (x / y) (x % y):=fun W a n c a' n' c' hR h h'=>
 zdiv W p a a' n n' c c' x y _ _ hR h h' (hide fun W a n c a' n' c' h h'=>(div_any a a' n n' c c' x y W h h').mono fun _ _ ⟨k,hb⟩=>⟨by
  rcases k with ⟨k,_⟩|⟨_,k⟩
  ·omega
  ·exact k,hb⟩)
theorem wcmp_ok (p x y:Nat):WCmp p x y (cmpI x y):=fun W a n c a' n' c' hR h h'=>
 zcmp W p a a' n n' c c' x y _ hR h h' (hide fun W a n c a' n' c' h h'=>cmpN_any a a' n n' c c' x y W h h')
theorem wover_ok (p x:Nat) {y:Nat} (hy:0 < y):WTwo 47 p x y (x / y):=fun W a n c a' n' c' hR h h'=>
 zover W p a a' n n' c c' x y _ _ hR h h' (hide (wdiv_ok p x hy))
theorem zmo_parts (x y z:Nat) (hz:0 < z):x / z * y+x % z * y / z = x * y / z∧x % z * y % z = x * y % z:=by
 have h:x * y = z * (x / z * y)+x % z * y:=by
  have:=Nat.div_add_mod x z
  conv=>lhs; rw [← this,Nat.add_mul,Nat.mul_assoc]
 exact ⟨by rw [h,Nat.mul_add_div hz],by rw [h,Nat.mul_add_mod]⟩
theorem wmo_ok (p x y:Nat) {z:Nat} (hz:0 < z) (ho:¬ Over (x % z * y)) (hq:¬ Over (x * y / z)) (hm:∀ {m n:Nat},m≤n→Over m→Over n):WMo p x y z (x * y / z) (x * y % z):=fun W a n c a' n' c' a2 n2 c2 hR h h' h2=>by
 obtain ⟨e1,e2⟩:=zmo_parts x y z hz
 have k:=zmo W p a a' a2 n n' n2 c c' c2 x y z _ _ _ _ _ _ _ hR h h' h2 (hide (wdiv_ok p x hz)) (hide (wmul_ok p ho)) (hide (wdiv_ok p _ hz)) (hide (wmul_ok p (x:=x / z) (y:=y) fun o=>hq (hm (Nat.le.intro e1) o))) (hide (wadd_ok p (by rw [e1]; exact hq)))
 rw [e1,e2] at k
 exact k
theorem wdist_ok (p x y:Nat):WTwo 151 p x y (if x < y then y - x else x - y):=fun W a n c a' n' c' hR h h'=>by
 by_cases hl:x < y
 ·rw [if_pos hl]
  exact zdist_lt W p a a' n n' c c' x y _ _ hR h h' (hide (wcmp_ok p x y)) (by unfold cmpI; rw [if_pos hl]; decide) (hide (wsub_ok p (by omega)))
 ·rw [if_neg hl]
  exact zdist_ge W p a a' n n' c c' x y _ _ hR h h' (hide (wcmp_ok p x y)) (by unfold cmpI; rw [if_neg hl]; split <;> decide) (hide (wsub_ok p (by omega)))
theorem wfr_ok (p:Nat) (s:Bool) (x y:Nat):WFr p s x y (s && !decide (x = 0)):=fun W a n c a' n' c' hR h h'=>by
 cases s
 ·exact zfra_f W p a a' n n' c c' x y hR h h'
 ·exact zfra_t W p a a' n n' c c' x y _ hR h h' rfl
def aFr (t:Bool) (a:Array Value):Value:=match a.getD 2 undef,a.getD 3 undef with
 | .agg x,.agg y=>.tuple #[.agg #[.bool t,x.getD 0 undef,y.getD 0 undef],.int .i64 0]
 | _,_=>undef
theorem zmake_is (w:World) (s t:Bool) (a1 a2:Option Addr) (n1 n2 c1 c2 x y g u v:Nat) (h1:Num w a1 n1 x) (h2:Num w a2 n2 y) (hy:y≠0) (HG:∀ p:Nat,Hid (WTwo 45 p x y g)) (HA:∀ p:Nat,Hid (WTwo 47 p x g u)) (HB:∀ p:Nat,Hid (WTwo 47 p y g v)) (HF:∀ p:Nat,Hid (WFr p s u v t)) :
  Calls Tryz.prog 14 #[.bool s,.agg #[.slice a1 n1 c1],.agg #[.slice a2 n2 c2]] w fun en w'=>(∃ A N C A' N' C',en = .returned (.tuple #[.agg #[.bool t,.slice A N C,.slice A' N' C'],.int .i64 0])∧Mine w' w.heap.size A N C u∧Mine w' w.heap.size A' N' C' v)∧Below w.heap.size w w':=by
 refine calls_sym Tryz.func14 rfl (by kernel_rfl) fun T hK=>?_
 replace hK:Kn T _ [(0,.bool s),(1,.agg #[.slice a1 n1 c1]),(2,.agg #[.slice a2 n2 c2])]:=hK
 have hS:=Fb.begin w
 have hG:GsAt [gN a1 n1 x,gN a2 n2 y] w:=⟨h1,h2,trivial⟩
 refine wq hS hG hK (fun p1=>[.n 4 #[.slice a1 n1 c1] 26,.n 5 #[.slice a2 n2 c2] 26,.n 6 #[.bool false,.slice none 0 0,.slice none 0 0] 28,.v 7 (.int .i64 0)]) (fun p1=>[(0,.bool s),(4,pT (p1 0).N 0),(5,pT (p1 1).N 0),(6,pT (p1 2).N 0),(7,.int .i64 0)]) (fun p1=>?_) (fun p1 W1 T hF hK=>?_)
 ·iterate 3 refine okn ?_
  refine okv ?_
  exact ok_nil
 replace hS:=SymF.fc hS hF [1000,1001,1002] [⟨(p1 0).N,#[.slice a1 n1 c1],26,true⟩,⟨(p1 1).N,#[.slice a2 n2 c2],26,true⟩,⟨(p1 2).N,#[.bool false,.slice none 0 0,.slice none 0 0],28,true⟩]
 replace hG:=hF.gx
 clear hF
 refine wp_seq ?_
 refine wq hS hG hK (fun p2=>[.l 12 (.agg #[.slice a1 n1 c1]) 0 0,.c (some 13) (cV (.int .i64 0)),.v 8 (.int .i64 0)]) (fun p2=>[(0,.bool s),(4,pT (p1 0).N 0),(5,pT (p1 1).N 0),(6,pT (p1 2).N 0),(7,.int .i64 0),(8,.int .i64 0)]) (fun p2=>?_) (fun p2 W2 T hF hK=>?_)
 ·refine okl ?_
  refine okc (fun W cx=>as_v (check_num _ _ c1 _ _ (cx.G.1))) ?_
  refine okv ?_
  exact ok_nil
 obtain ⟨hS,hG⟩:=SymF.fg hS hF
 clear hF
 refine wq hS hG hK (fun p3=>[.v 14 (.int .i64 0),.v 15 (.bool false)]) (fun p3=>[(0,.bool s),(4,pT (p1 0).N 0),(5,pT (p1 1).N 0),(6,pT (p1 2).N 0),(7,.int .i64 0),(8,.int .i64 0),(15,.bool false)]) (fun p3=>?_) (fun p3 W3 T hF hK=>?_)
 ·iterate 2 refine okv ?_
  exact ok_nil
 obtain ⟨hS,hG⟩:=SymF.fg hS hF
 clear hF
 refine wp_cond_false (hK.ew 15) (wp_skip ?_)
 refine then_n (wp_seq ?_)
 refine wq hS hG hK (fun p4=>[.l 18 (.agg #[.slice a2 n2 c2]) 1 0,.c (some 19) (cV (.int .i64 0)),.v 9 (.int .i64 0)]) (fun p4=>[(0,.bool s),(4,pT (p1 0).N 0),(5,pT (p1 1).N 0),(6,pT (p1 2).N 0),(7,.int .i64 0),(8,.int .i64 0),(9,.int .i64 0),(15,.bool false)]) (fun p4=>?_) (fun p4 W4 T hF hK=>?_)
 ·refine okl ?_
  refine okc (fun W cx=>as_v (check_num _ _ c2 _ _ (cx.G.2.1))) ?_
  refine okv ?_
  exact ok_nil
 obtain ⟨hS,hG⟩:=SymF.fg hS hF
 clear hF
 refine wq hS hG hK (fun p5=>[.v 20 (.int .i64 0),.v 21 (.bool false)]) (fun p5=>[(0,.bool s),(4,pT (p1 0).N 0),(5,pT (p1 1).N 0),(6,pT (p1 2).N 0),(7,.int .i64 0),(8,.int .i64 0),(9,.int .i64 0),(15,.bool false),(21,.bool false)]) (fun p5=>?_) (fun p5 W5 T hF hK=>?_)
 ·iterate 2 refine okv ?_
  exact ok_nil
 obtain ⟨hS,hG⟩:=SymF.fg hS hF
 clear hF
 refine wp_cond_false (hK.ew 21) (wp_skip ?_)
 refine then_n (wp_seq ?_)
 refine wq hS hG hK (fun p6=>[.l 24 (.agg #[.slice a2 n2 c2]) 1 0,.c (some 25) (cV (.bool false))]) (fun p6=>[(0,.bool s),(4,pT (p1 0).N 0),(5,pT (p1 1).N 0),(6,pT (p1 2).N 0),(7,.int .i64 0),(8,.int .i64 0),(9,.int .i64 0),(15,.bool false),(21,.bool false),(25,.bool false)]) (fun p6=>?_) (fun p6 W6 T hF hK=>?_)
 ·refine okl ?_
  refine okc (fun W cx=>as_v (znought a2 _ c2 _ _ ((Num.zdec (cx.G.2.1)).trans (decide_eq_false hy)))) ?_
  exact ok_nil
 obtain ⟨hS,hG⟩:=SymF.fg hS hF
 clear hF
 refine wp_cond_false (hK.ew 25) (wp_skip (then_n ?_))
 refine wq hS hG hK (fun p7=>[.n 10 #[.int .i64 0] 95]) (fun p7=>[(0,.bool s),(4,pT (p1 0).N 0),(5,pT (p1 1).N 0),(6,pT (p1 2).N 0),(7,.int .i64 0),(8,.int .i64 0),(9,.int .i64 0),(10,pT (p7 0).N 0),(15,.bool false),(21,.bool false),(25,.bool false)]) (fun p7=>?_) (fun p7 W7 T hF hK=>?_)
 ·refine okn ?_
  exact ok_nil
 replace hS:=SymF.fc hS hF [0,1,2,1000] [⟨(p1 0).N,#[.slice a1 n1 c1],26,true⟩,⟨(p1 1).N,#[.slice a2 n2 c2],26,true⟩,⟨(p1 2).N,#[.bool false,.slice none 0 0,.slice none 0 0],28,true⟩,⟨(p7 0).N,#[.int .i64 0],95,true⟩]
 replace hG:=hF.gx
 clear hF
 refine wq hS hG hK (fun p8=>[.l 27 (.agg #[.slice a1 n1 c1]) 0 0,.l 28 (.agg #[.slice a2 n2 c2]) 1 0,.c (some 29) (cN W7.heap.size g),.n 11 #[.slice none 0 0] 26,.p 1003 0 [.slice (p8 2).A (p8 2).N (p8 2).C]]) (fun p8=>[(0,.bool s),(4,pT (p1 0).N 0),(5,pT (p1 1).N 0),(6,pT (p1 2).N 0),(7,.int .i64 0),(8,.int .i64 0),(9,.int .i64 0),(10,pT (p7 0).N 0),(11,pT (p8 3).N 0),(15,.bool false),(21,.bool false),(25,.bool false)]) (fun p8=>?_) (fun p8 W8 T hF hK=>?_)
 ·iterate 2 refine okl ?_
  refine okc (fun W cx=>as_n cx.hb (unhide (HG (p7 0).N) _ _ _ c1 _ _ c2 ⟨_,_,cx.B 3 _ rfl (by kernel_rfl) (by kernel_rfl),rfl⟩ (cx.G.1) (cx.G.2.1))) ?_
  refine okn ?_
  refine okp ?_
  exact ok_nil
 replace hS:=SymF.fc hS hF [0,1,2,3,1003] [⟨(p1 0).N,#[.slice a1 n1 c1],26,true⟩,⟨(p1 1).N,#[.slice a2 n2 c2],26,true⟩,⟨(p1 2).N,#[.bool false,.slice none 0 0,.slice none 0 0],28,true⟩,⟨(p7 0).N,#[.int .i64 0],95,true⟩,⟨(p8 3).N,#[.slice (p8 2).A (p8 2).N (p8 2).C],26,true⟩]
 replace hG:GsAt (gM W7.heap.size (p8 2).A (p8 2).N (p8 2).C g :: _) W8:=⟨hF.fx 2,hF.gx⟩
 clear hF
 have z8:=hS.fr.size
 refine wq hS hG hK (fun p9=>[.v 30 (.bool s),.l 31 (.agg #[.slice a1 n1 c1]) 0 0,.l 32 (.agg #[.slice (p8 2).A (p8 2).N (p8 2).C]) 4 0,.c (some 33) (cN W8.heap.size u),.l 34 (.agg #[.slice a2 n2 c2]) 1 0,.l 35 (.agg #[.slice (p8 2).A (p8 2).N (p8 2).C]) 4 0,.c (some 36) (cN W8.heap.size v),.u 37 (.tuple #[.agg #[.bool t,.slice (p9 3).A (p9 3).N (p9 3).C,.slice (p9 6).A (p9 6).N (p9 6).C],.int .i64 0]) (aFr t),.v 38 (.agg #[.bool t,.slice (p9 3).A (p9 3).N (p9 3).C,.slice (p9 6).A (p9 6).N (p9 6).C]),.v 39 (.int .i64 0),.p 2 0 [.bool t,.slice (p9 3).A (p9 3).N (p9 3).C,.slice (p9 6).A (p9 6).N (p9 6).C],.v 7 (.int .i64 0)]) (fun p9=>[(6,pT (p1 2).N 0),(7,.int .i64 0),(8,.int .i64 0),(9,.int .i64 0),(15,.bool false),(21,.bool false),(25,.bool false)]) (fun p9=>?_) (fun p9 W9 T hF hK=>?_)
 ·refine okv ?_
  iterate 2 refine okl ?_
  refine okc (fun W cx=>as_n cx.hb (unhide (HA (p7 0).N) _ _ _ c1 _ _ (p8 2).C ⟨_,_,cx.B 3 _ rfl (by kernel_rfl) (by kernel_rfl),rfl⟩ (cx.G.2.1) (Mine.num cx.G.1))) ?_
  iterate 2 refine okl ?_
  refine okc (fun W cx=>as_n cx.hb (unhide (HB (p7 0).N) _ _ _ c2 _ _ (p8 2).C ⟨_,_,cx.B 3 _ rfl (by kernel_rfl) (by kernel_rfl),rfl⟩ (cx.G.2.2.1) (Mine.num cx.G.1))) ?_
  refine oku (fun W cx=>unhide (HF (p7 0).N) _ _ _ (p9 3).C _ _ (p9 6).C ⟨_,_,cx.B 3 _ rfl (by kernel_rfl) (by kernel_rfl),rfl⟩ (Mine.num (cx.F 3 (by kernel_rfl))) (Mine.num (cx.F 6 (by kernel_rfl)))) ?_
  iterate 2 refine okv ?_
  refine okp ?_
  refine okv ?_
  exact ok_nil
 replace hS:=SymF.fc hS hF [2] [⟨(p1 2).N,#[.bool t,.slice (p9 3).A (p9 3).N (p9 3).C,.slice (p9 6).A (p9 6).N (p9 6).C],28,true⟩]
 replace hG:GsAt (gM W8.heap.size (p9 3).A (p9 3).N (p9 3).C u :: gM W8.heap.size (p9 6).A (p9 6).N (p9 6).C v :: _) W9:=⟨hF.fx 3,hF.fx 6,hF.gx⟩
 clear hF
 refine wp_ret ?_
 exact sym_end hS hK (.tuple #[.agg #[.bool t,.slice (p9 3).A (p9 3).N (p9 3).C,.slice (p9 6).A (p9 6).N (p9 6).C],.int .i64 0]) [(0,0,3)] [.bool t,.slice (p9 3).A (p9 3).N (p9 3).C,.slice (p9 6).A (p9 6).N (p9 6).C] (by kernel_rfl) (by kernel_rfl) ⟨⟨_,_,_,_,_,_,rfl,Mine.mono hG.1 z8,Mine.mono hG.2.1 z8⟩,hS.fr⟩
theorem ymake_any (s:Bool) (a1 a2:Option Addr) (n1 n2 c1 c2 x y:Nat) (w:World) (h1:Num w a1 n1 x) (h2:Num w a2 n2 y) (hy:0 < y) :
  Calls Tryz.prog 14 #[.bool s,.agg #[.slice a1 n1 c1],.agg #[.slice a2 n2 c2]] w fun en w'=>(∃ A N C A' N' C',en = .returned (.tuple #[.agg #[.bool (s && !decide (x / Nat.gcd x y = 0)),.slice A N C,.slice A' N' C'],.int .i64 0])∧Mine w' w.heap.size A N C (x / Nat.gcd x y)∧Mine w' w.heap.size A' N' C' (y / Nat.gcd x y))∧Below w.heap.size w w':=by
 have hg:0 < Nat.gcd x y:=Nat.gcd_pos_of_pos_right x hy
 exact zmake_is w s _ a1 a2 n1 n2 c1 c2 x y _ _ _ h1 h2 (by omega) (fun p=>hide (wgcd_ok p x y)) (fun p=>hide (wover_ok p x hg)) (fun p=>hide (wover_ok p y hg)) (fun p=>hide (wfr_ok p s _ _))
theorem zover_mono {m n:Nat} (hmn:m≤n) (h:Over m):Over n:=⟨Nat.le_trans h.le hmn⟩
structure SmR (N m1 d1 m2 d2:Nat):Prop where
 a:m1≤N
 b:d1≤N
 c:m2≤N
 d:d2≤N
 p1:0 < d1
 p2:0 < d2
 o:∀ v,v≤8 * (N * N * N)+8→¬ Over v
theorem SmR.two {N m1 d1 m2 d2:Nat} (h:SmR N m1 d1 m2 d2) {v:Nat} (hv:v≤N * N):¬ Over v:=by
 have h0:0 < N:=Nat.lt_of_lt_of_le h.p1 h.b
 have:=Nat.le_mul_of_pos_right (N * N) h0
 exact h.o v (by omega)
theorem SmR.wmo {N m1 d1 m2 d2:Nat} (h:SmR N m1 d1 m2 d2) (p:Nat) {x y z:Nat} (hz:0 < z) (hx:x≤N) (hy:y≤N):WMo p x y z (x * y / z) (x * y % z):=
 wmo_ok p x y hz (h.two (Nat.mul_le_mul (Nat.le_trans (Nat.mod_le x z) hx) hy)) (h.two (Nat.le_trans (Nat.div_le_self _ _) (Nat.mul_le_mul hx hy))) zover_mono
theorem spl_s {N m1 d1 m2 d2:Nat} (h:SmR N m1 d1 m2 d2) (p:Nat) (s:Bool):WSpl p s s m1 d1 m2 d2 (m1 / d1) (m2 / d2) (Rm.partA true m1 d1 m2 d2) (Rm.partB true m1 d1 m2 d2) (Rm.sden true m1 d1 m2 d2) (!decide (Rm.broken true m1 d1 m2 d2 = 0)):=fun W a1 n1 c1 a2 n2 c2 a3 n3 c3 a4 n4 c4 hR h1 h2 h3 h4=>by
 have hg:0 < Nat.gcd d1 d2:=Nat.gcd_pos_of_pos_left _ h.p1
 have hl:0 < Rm.lost true m1 d1 m2 d2:=Nat.gcd_pos_of_pos_right _ hg
 have x1:m1 % d1≤N:=Nat.le_trans (Nat.le_of_lt (Nat.mod_lt _ h.p1)) h.b
 have x2:m2 % d2≤N:=Nat.le_trans (Nat.le_of_lt (Nat.mod_lt _ h.p2)) h.d
 have y1:d2 / Nat.gcd d1 d2≤N:=Nat.le_trans (Nat.div_le_self _ _) h.d
 have y2:d1 / Nat.gcd d1 d2≤N:=Nat.le_trans (Nat.div_le_self _ _) h.b
 have y3:d2 / Rm.lost true m1 d1 m2 d2≤N:=Nat.le_trans (Nat.div_le_self _ _) h.d
 exact zspl_s W p a1 a2 a3 a4 n1 n2 n3 n4 c1 c2 c3 c4 m1 d1 m2 d2 s (decide (Rm.broken true m1 d1 m2 d2 = 0)) (m1 / d1) (m1 % d1) (m2 / d2) (m2 % d2) (Nat.gcd d1 d2) (d2 / Nat.gcd d1 d2) (d1 / Nat.gcd d1 d2) (m1 % d1 * (d2 / Nat.gcd d1 d2) / Nat.gcd d1 d2) (m1 % d1 * (d2 / Nat.gcd d1 d2) % Nat.gcd d1 d2) (m2 % d2 * (d1 / Nat.gcd d1 d2) / Nat.gcd d1 d2) (m2 % d2 * (d1 / Nat.gcd d1 d2) % Nat.gcd d1 d2) (Nat.gcd d1 d2 - m2 % d2 * (d1 / Nat.gcd d1 d2) % Nat.gcd d1 d2) (Rm.dist (m1 % d1 * (d2 / Nat.gcd d1 d2) % Nat.gcd d1 d2) (Nat.gcd d1 d2 - m2 % d2 * (d1 / Nat.gcd d1 d2) % Nat.gcd d1 d2)) (Rm.lost true m1 d1 m2 d2) (d2 / Rm.lost true m1 d1 m2 d2) (Rm.sden true m1 d1 m2 d2) (Rm.partA true m1 d1 m2 d2) (Rm.broken true m1 d1 m2 d2) (Rm.partB true m1 d1 m2 d2) (m2 % d2 * (d1 / Nat.gcd d1 d2) % Rm.lost true m1 d1 m2 d2) hR h1 h2 h3 h4
  (hide (wdiv_ok p m1 h.p1)) (hide (wdiv_ok p m2 h.p2)) (hide (wgcd_ok p d1 d2)) (hide (wover_ok p d2 hg)) (hide (wover_ok p d1 hg)) (hide (h.wmo p hg x1 y1)) (hide (h.wmo p hg x2 y2)) (hide (wsub_ok p (Nat.le_of_lt (Nat.mod_lt _ hg)))) (hide (wdist_ok p _ _)) (hide (wgcd_ok p _ _)) (hide (wover_ok p d2 hl)) (hide (wmul_ok p (h.two (Nat.mul_le_mul y2 y3)))) (hide (h.wmo p hl x1 y1)) (hide (h.wmo p hl x2 y2)) rfl
theorem spl_d {N m1 d1 m2 d2:Nat} (h:SmR N m1 d1 m2 d2) (p:Nat) (s t:Bool) (hst:(s == t) = false):WSpl p s t m1 d1 m2 d2 (m1 / d1) (m2 / d2) (Rm.partA false m1 d1 m2 d2) (Rm.partB false m1 d1 m2 d2) (Rm.sden false m1 d1 m2 d2) (!decide (Rm.broken false m1 d1 m2 d2 = 0)):=fun W a1 n1 c1 a2 n2 c2 a3 n3 c3 a4 n4 c4 hR h1 h2 h3 h4=>by
 have hg:0 < Nat.gcd d1 d2:=Nat.gcd_pos_of_pos_left _ h.p1
 have hl:0 < Rm.lost false m1 d1 m2 d2:=Nat.gcd_pos_of_pos_right _ hg
 have x1:m1 % d1≤N:=Nat.le_trans (Nat.le_of_lt (Nat.mod_lt _ h.p1)) h.b
 have x2:m2 % d2≤N:=Nat.le_trans (Nat.le_of_lt (Nat.mod_lt _ h.p2)) h.d
 have y1:d2 / Nat.gcd d1 d2≤N:=Nat.le_trans (Nat.div_le_self _ _) h.d
 have y2:d1 / Nat.gcd d1 d2≤N:=Nat.le_trans (Nat.div_le_self _ _) h.b
 have y3:d2 / Rm.lost false m1 d1 m2 d2≤N:=Nat.le_trans (Nat.div_le_self _ _) h.d
 exact zspl_d W p a1 a2 a3 a4 n1 n2 n3 n4 c1 c2 c3 c4 m1 d1 m2 d2 s t (decide (Rm.broken false m1 d1 m2 d2 = 0)) (m1 / d1) (m1 % d1) (m2 / d2) (m2 % d2) (Nat.gcd d1 d2) (d2 / Nat.gcd d1 d2) (d1 / Nat.gcd d1 d2) (m1 % d1 * (d2 / Nat.gcd d1 d2) / Nat.gcd d1 d2) (m1 % d1 * (d2 / Nat.gcd d1 d2) % Nat.gcd d1 d2) (m2 % d2 * (d1 / Nat.gcd d1 d2) / Nat.gcd d1 d2) (m2 % d2 * (d1 / Nat.gcd d1 d2) % Nat.gcd d1 d2) (Rm.dist (m1 % d1 * (d2 / Nat.gcd d1 d2) % Nat.gcd d1 d2) (m2 % d2 * (d1 / Nat.gcd d1 d2) % Nat.gcd d1 d2)) (Rm.lost false m1 d1 m2 d2) (d2 / Rm.lost false m1 d1 m2 d2) (Rm.sden false m1 d1 m2 d2) (Rm.partA false m1 d1 m2 d2) (Rm.broken false m1 d1 m2 d2) (Rm.partB false m1 d1 m2 d2) (m2 % d2 * (d1 / Nat.gcd d1 d2) % Rm.lost false m1 d1 m2 d2) hR h1 h2 h3 h4
  (hide (wdiv_ok p m1 h.p1)) (hide (wdiv_ok p m2 h.p2)) (hide (wgcd_ok p d1 d2)) (hide (wover_ok p d2 hg)) (hide (wover_ok p d1 hg)) (hide (h.wmo p hg x1 y1)) (hide (h.wmo p hg x2 y2)) (hide (wdist_ok p _ _)) (hide (wgcd_ok p _ _)) (hide (wover_ok p d2 hl)) (hide (wmul_ok p (h.two (Nat.mul_le_mul y2 y3)))) (hide (h.wmo p hl x1 y1)) (hide (h.wmo p hl x2 y2)) rfl hst
theorem SmR.parts {N m1 d1 m2 d2:Nat} (h:SmR N m1 d1 m2 d2) (same:Bool):Rm.partA same m1 d1 m2 d2≤N * N∧Rm.partB same m1 d1 m2 d2≤N * N∧Rm.sden same m1 d1 m2 d2≤N * N∧m1 / d1≤N∧m2 / d2≤N:=by
 have x1:m1 % d1≤N:=Nat.le_trans (Nat.le_of_lt (Nat.mod_lt _ h.p1)) h.b
 have x2:m2 % d2≤N:=Nat.le_trans (Nat.le_of_lt (Nat.mod_lt _ h.p2)) h.d
 have y1:d2 / Nat.gcd d1 d2≤N:=Nat.le_trans (Nat.div_le_self _ _) h.d
 have y2:d1 / Nat.gcd d1 d2≤N:=Nat.le_trans (Nat.div_le_self _ _) h.b
 have y3:d2 / Rm.lost same m1 d1 m2 d2≤N:=Nat.le_trans (Nat.div_le_self _ _) h.d
 exact ⟨Nat.le_trans (Nat.div_le_self _ _) (Nat.mul_le_mul x1 y1),Nat.le_trans (Nat.div_le_self _ _) (Nat.mul_le_mul x2 y2),Nat.mul_le_mul y2 y3,Nat.le_trans (Nat.div_le_self _ _) h.a,Nat.le_trans (Nat.div_le_self _ _) h.c⟩
theorem tog_ok {N m1 d1 m2 d2:Nat} (h:SmR N m1 d1 m2 d2) (p:Nat) (s:Bool):WSum 114 p s s m1 d1 m2 d2 (Rm.snum m1 d1 m2 d2) (Rm.sden true m1 d1 m2 d2) (s && !decide (Rm.snum m1 d1 m2 d2 = 0)):=fun W a1 n1 c1 a2 n2 c2 a3 n3 c3 a4 n4 c4 hR h1 h2 h3 h4=>by
 have h0:0 < N:=Nat.lt_of_lt_of_le h.p1 h.b
 obtain ⟨b1,b2,b3,b4,b5⟩:=h.parts true
 have hNN:=Nat.le_mul_of_pos_right (N * N) h0
 have hN1:N≤N * N:=Nat.le_mul_of_pos_right N h0
 have b6:(m1 / d1+m2 / d2) * Rm.sden true m1 d1 m2 d2≤(2 * N) * (N * N):=Nat.mul_le_mul (by omega) b3
 have b7:(2 * N) * (N * N) = 2 * (N * N * N):=by rw [Nat.mul_assoc 2,Nat.mul_comm N (N * N)]
 have HS:=spl_s h p s
 have z1:=wadd_ok p (h.o (Rm.partA true m1 d1 m2 d2+Rm.partB true m1 d1 m2 d2) (by omega))
 have z3:=wadd_ok p (h.o (m1 / d1+m2 / d2) (by omega))
 have z4:=wmul_ok p (h.o ((m1 / d1+m2 / d2) * Rm.sden true m1 d1 m2 d2) (by omega))
 by_cases hb:Rm.broken true m1 d1 m2 d2 = 0
 ·have e:Rm.snum m1 d1 m2 d2 = Rm.partA true m1 d1 m2 d2+Rm.partB true m1 d1 m2 d2+(m1 / d1+m2 / d2) * Rm.sden true m1 d1 m2 d2:=by unfold Rm.snum; rw [if_pos hb]; omega
  rw [decide_eq_true hb] at HS
  have z5:=wadd_ok p (h.o (Rm.partA true m1 d1 m2 d2+Rm.partB true m1 d1 m2 d2+(m1 / d1+m2 / d2) * Rm.sden true m1 d1 m2 d2) (by omega))
  rw [← e] at z5
  exact ztog_f W p a1 a2 a3 a4 n1 n2 n3 n4 c1 c2 c3 c4 m1 d1 m2 d2 s _ _ _ _ _ _ _ _ _ _ hR h1 h2 h3 h4 (hide HS) (hide z1) (hide z3) (hide z4) (hide z5) (hide (wfr_ok p s _ _))
 ·have e:Rm.snum m1 d1 m2 d2 = Rm.partA true m1 d1 m2 d2+Rm.partB true m1 d1 m2 d2+1+(m1 / d1+m2 / d2) * Rm.sden true m1 d1 m2 d2:=by unfold Rm.snum; rw [if_neg hb]; omega
  rw [decide_eq_false hb] at HS
  have z2:=wadd_ok p (h.o (Rm.partA true m1 d1 m2 d2+Rm.partB true m1 d1 m2 d2+1) (by omega))
  have z5:=wadd_ok p (h.o (Rm.partA true m1 d1 m2 d2+Rm.partB true m1 d1 m2 d2+1+(m1 / d1+m2 / d2) * Rm.sden true m1 d1 m2 d2) (by omega))
  rw [← e] at z5
  exact ztog_t W p a1 a2 a3 a4 n1 n2 n3 n4 c1 c2 c3 c4 m1 d1 m2 d2 s _ _ _ _ _ _ _ _ _ _ _ hR h1 h2 h3 h4 (hide HS) (hide z1) (hide z2) (hide z3) (hide z4) (hide z5) (hide (wfr_ok p s _ _))
theorem wbel_ok (p wa wb pa pb:Nat):WBel p wa wb pa pb (decide (wa < wb∨wa = wb∧pa < pb)):=fun W a1 n1 c1 a2 n2 c2 a3 n3 c3 a4 n4 c4 a5 n5 c5 b hR h1 h2 h3 h4=>by
 by_cases he:wa = wb
 ·refine zbel_eq W p a1 a2 a3 a4 a5 n1 n2 n3 n4 n5 c1 c2 c3 c4 c5 wa wb pa pb b _ _ _ hR h1 h2 h3 h4 (hide (wcmp_ok p wa wb)) (by unfold cmpI; rw [if_neg (by omega),if_pos he]) (hide (wcmp_ok p pa pb)) ?_
  unfold cmpI
  by_cases hp:pa < pb
  ·rw [if_pos hp,decide_eq_true (p:=wa < wb∨wa = wb∧pa < pb) (Or.inr ⟨he,hp⟩)]; rfl
  ·rw [if_neg hp,decide_eq_false (p:=wa < wb∨wa = wb∧pa < pb) (by omega)]; split <;> rfl
 ·refine zbel_ne W p a1 a2 a3 a4 a5 n1 n2 n3 n4 n5 c1 c2 c3 c4 c5 wa wb pa pb b _ _ hR h1 h2 h3 h4 (hide (wcmp_ok p wa wb)) (by unfold cmpI; split <;> (try split) <;> first|decide|omega) ?_
  unfold cmpI
  by_cases hp:wa < wb
  ·rw [if_pos hp,decide_eq_true (p:=wa < wb∨wa = wb∧pa < pb) (Or.inl hp)]; rfl
  ·rw [if_neg hp,if_neg he,decide_eq_false (p:=wa < wb∨wa = wb∧pa < pb) (by omega)]; rfl
theorem zcI_lt {x y:Nat} (h:x < y):cmpI x y < 0:=by unfold cmpI; rw [if_pos h]; decide
theorem zcI_ge {x y:Nat} (h:y≤x):0≤cmpI x y:=by unfold cmpI; rw [if_neg (by omega)]; split <;> decide
theorem lex_ge {X1 X2 y1 y2 D:Nat} (hX:X2≤X1) (hy:y2≤y1):X1 * D+y1 - (X2 * D+y2) = (X1 - X2) * D+(y1 - y2):=by
 obtain ⟨k,rfl⟩:=Nat.exists_eq_add_of_le hX
 rw [Nat.add_mul,Nat.add_sub_cancel_left]; omega
theorem lex_lo {X1 X2 y1 y2 D:Nat} (hX:X2 < X1) (hD:y2 < D):X1 * D+y1 - (X2 * D+y2) = (X1 - X2 - 1) * D+(D - y2+y1 - 0):=by
 obtain ⟨k,rfl⟩:=Nat.exists_eq_add_of_le (show X2+1≤X1 from hX)
 have e:X2+1+k - X2 - 1 = k:=by omega
 rw [e,Nat.add_mul,Nat.add_mul,Nat.one_mul]; omega
theorem apa_ok {N m1 d1 m2 d2:Nat} (h:SmR N m1 d1 m2 d2) (hc1:Nat.gcd m1 d1 = 1) (hc2:Nat.gcd m2 d2 = 1) (p:Nat) (s t:Bool) (hst:(s == t) = false):WSum 115 p s t m1 d1 m2 d2 (Rm.dnum m1 d1 m2 d2) (Rm.sden false m1 d1 m2 d2) ((if Rm.low m1 d1 m2 d2 then t else s) && !decide (Rm.dnum m1 d1 m2 d2 = 0)):=fun W a1 n1 c1 a2 n2 c2 a3 n3 c3 a4 n4 c4 hR h1 h2 h3 h4=>by
 have h0:0 < N:=Nat.lt_of_lt_of_le h.p1 h.b
 obtain ⟨b1,b2,b3,b4,b5⟩:=h.parts false
 have hNN:=Nat.le_mul_of_pos_right (N * N) h0
 have hN1:N≤N * N:=Nat.le_mul_of_pos_right N h0
 have b7:N * (N * N) = N * N * N:=by rw [Nat.mul_comm]
 obtain ⟨_,_,_,_,_,_,_,_,_,_,P⟩:=Rm.parts false h.p1 h.p2 hc1 hc2
 have hA:=P.hA
 have hB:=P.hB
 have HS:=spl_d h p s t hst
 have HB:=wbel_ok p (m1 / d1) (m2 / d2) (Rm.partA false m1 d1 m2 d2) (Rm.partB false m1 d1 m2 d2)
 obtain ⟨wa,ea⟩:∃ wa,wa = m1 / d1:=⟨_,rfl⟩
 obtain ⟨wb,eb⟩:∃ wb,wb = m2 / d2:=⟨_,rfl⟩
 obtain ⟨pa,e1⟩:∃ pa,pa = Rm.partA false m1 d1 m2 d2:=⟨_,rfl⟩
 obtain ⟨pb,e2⟩:∃ pb,pb = Rm.partB false m1 d1 m2 d2:=⟨_,rfl⟩
 obtain ⟨dn,e3⟩:∃ dn,dn = Rm.sden false m1 d1 m2 d2:=⟨_,rfl⟩
 have hlw:Rm.low m1 d1 m2 d2↔(wa < wb∨wa = wb∧pa < pb):=by rw [ea,eb,e1,e2]; rfl
 have hdn:Rm.dnum m1 d1 m2 d2 = if Rm.low m1 d1 m2 d2 then wb * dn+pb - (wa * dn+pa) else wa * dn+pa - (wb * dn+pb):=by rw [ea,eb,e1,e2,e3]; rfl
 rw [← ea,← eb,← e1,← e2,← e3] at HS
 rw [← ea,← eb,← e1,← e2] at HB
 rw [← e1,← e3] at hA
 rw [← e2,← e3] at hB
 rw [← e1] at b1
 rw [← e2] at b2
 rw [← e3] at b3 ⊢
 rw [← ea] at b4
 rw [← eb] at b5
 have mulB:∀ X:Nat,X≤N→X * dn≤N * N * N:=fun X hX=>by rw [← b7]; exact Nat.mul_le_mul hX b3
 by_cases hlow:wa < wb∨wa = wb∧pa < pb
 ·rw [decide_eq_true hlow] at HB
  rw [if_pos (hlw.2 hlow)] at hdn ⊢
  rcases Nat.lt_or_ge pb pa with hy|hy
  ·have hX:wa < wb:=by omega
   have hz:=lex_lo (D:=dn) (y1:=pb) hX hA
   have m5:=mulB (wb - wa - 1) (by omega)
   rw [hz] at hdn
   have z7:=wadd_ok p (h.o ((wb - wa - 1) * dn+(dn - pa+pb - 0)) (by omega))
   rw [← hdn] at z7
   exact zapa_tl W p a1 a2 a3 a4 n1 n2 n3 n4 c1 c2 c3 c4 m1 d1 m2 d2 s t _ _ wa wb pa pb dn _ _ _ _ _ _ _ _ hR h1 h2 h3 h4 (hide HS) (hide HB) (hide (wsub_ok p (by omega))) (hide (wcmp_ok p pb pa)) (zcI_lt hy) (hide (wsub_ok p (by omega))) (hide (wsub_ok p (by omega))) (hide (wadd_ok p (h.o _ (by omega)))) (hide (wmul_ok p (h.o _ (by omega)))) (hide (wsub_ok p (Nat.zero_le _))) (hide z7) (hide (wfr_ok p t _ _))
  ·have hX:wa≤wb:=by omega
   have hz:=lex_ge (D:=dn) hX hy
   have m5:=mulB (wb - wa) (by omega)
   rw [hz] at hdn
   have z7:=wadd_ok p (h.o ((wb - wa) * dn+(pb - pa)) (by omega))
   rw [← hdn] at z7
   exact zapa_tg W p a1 a2 a3 a4 n1 n2 n3 n4 c1 c2 c3 c4 m1 d1 m2 d2 s t _ _ wa wb pa pb dn _ _ _ _ _ hR h1 h2 h3 h4 (hide HS) (hide HB) (hide (wsub_ok p (by omega))) (hide (wcmp_ok p pb pa)) (zcI_ge hy) (hide (wmul_ok p (h.o _ (by omega)))) (hide (wsub_ok p hy)) (hide z7) (hide (wfr_ok p t _ _))
 ·rw [decide_eq_false hlow] at HB
  rw [if_neg (fun hh=>hlow (hlw.1 hh))] at hdn ⊢
  rcases Nat.lt_or_ge pa pb with hy|hy
  ·have hX:wb < wa:=by omega
   have hz:=lex_lo (D:=dn) (y1:=pa) hX hB
   have m5:=mulB (wa - wb - 1) (by omega)
   rw [hz] at hdn
   have z7:=wadd_ok p (h.o ((wa - wb - 1) * dn+(dn - pb+pa - 0)) (by omega))
   rw [← hdn] at z7
   exact zapa_fl W p a1 a2 a3 a4 n1 n2 n3 n4 c1 c2 c3 c4 m1 d1 m2 d2 s t _ _ wa wb pa pb dn _ _ _ _ _ _ _ _ hR h1 h2 h3 h4 (hide HS) (hide HB) (hide (wsub_ok p (by omega))) (hide (wcmp_ok p pa pb)) (zcI_lt hy) (hide (wsub_ok p (by omega))) (hide (wsub_ok p (by omega))) (hide (wadd_ok p (h.o _ (by omega)))) (hide (wmul_ok p (h.o _ (by omega)))) (hide (wsub_ok p (Nat.zero_le _))) (hide z7) (hide (wfr_ok p s _ _))
  ·have hX:wb≤wa:=by omega
   have hz:=lex_ge (D:=dn) hX hy
   have m5:=mulB (wa - wb) (by omega)
   rw [hz] at hdn
   have z7:=wadd_ok p (h.o ((wa - wb) * dn+(pa - pb)) (by omega))
   rw [← hdn] at z7
   exact zapa_fg W p a1 a2 a3 a4 n1 n2 n3 n4 c1 c2 c3 c4 m1 d1 m2 d2 s t _ _ wa wb pa pb dn _ _ _ _ _ hR h1 h2 h3 h4 (hide HS) (hide HB) (hide (wsub_ok p (by omega))) (hide (wcmp_ok p pa pb)) (zcI_ge hy) (hide (wmul_ok p (h.o _ (by omega)))) (hide (wsub_ok p hy)) (hide z7) (hide (wfr_ok p s _ _))
theorem sum_ok {N m1 d1 m2 d2:Nat} (h:SmR N m1 d1 m2 d2) {x y:Rat} {s t:Bool} (hx:Rm.V x s m1 d1) (hy:Rm.V y t m2 d2) :
  ∃ (g:Bool) (z dn:Nat),Rm.Q (x+y) g z dn∧BSum 76 s t m1 d1 m2 d2 z dn g:=by
 cases hst:(s == t)
 ·have ht:t = !s:=by cases s <;> cases t <;> first|rfl|exact absurd hst (by decide)
  subst ht
  refine ⟨_,_,_,Rm.sum_diff hx hy,fun W a1 n1 c1 a2 n2 c2 a3 n3 c3 a4 n4 c4 h1 h2 h3 h4=>zsum_d W a1 a2 a3 a4 n1 n2 n3 n4 c1 c2 c3 c4 m1 d1 m2 d2 s (!s) _ _ _ h1 h2 h3 h4 (fun p=>hide (apa_ok h hx.co hy.co p s (!s) hst)) hst⟩
 ·have ht:s = t:=by simpa using hst
  subst ht
  exact ⟨_,_,_,Rm.sum_same hx hy,fun W a1 n1 c1 a2 n2 c2 a3 n3 c3 a4 n4 c4 h1 h2 h3 h4=>zsum_s W a1 a2 a3 a4 n1 n2 n3 n4 c1 c2 c3 c4 m1 d1 m2 d2 s _ _ _ h1 h2 h3 h4 (fun p=>hide (tog_ok h p s))⟩
theorem dif_ok {N m1 d1 m2 d2:Nat} (h:SmR N m1 d1 m2 d2) {x y:Rat} {s t:Bool} (hx:Rm.V x s m1 d1) (hy:Rm.V y t m2 d2) :
  ∃ (g:Bool) (z dn:Nat),Rm.Q (x - y) g z dn∧BSum 49 s t m1 d1 m2 d2 z dn g:=by
 obtain ⟨g,z,dn,hq,hb⟩:=sum_ok h hx hy.minus
 rw [← Rat.sub_eq_add_neg] at hq
 exact ⟨g,z,dn,hq,fun W a1 n1 c1 a2 n2 c2 a3 n3 c3 a4 n4 c4 h1 h2 h3 h4=>zdif W a1 a2 a3 a4 n1 n2 n3 n4 c1 c2 c3 c4 m1 d1 m2 d2 s t g z dn h1 h2 h3 h4 (hide hb)⟩
theorem rsub_ok {N m1 d1 m2 d2:Nat} (h:SmR N m1 d1 m2 d2) {x y:Rat} {s t:Bool} (hx:Rm.V x s m1 d1) (hy:Rm.V y t m2 d2) :
  ∃ (g:Bool) (z dn:Nat),Rm.Q (x - y) g z dn∧∀ (W:World) (a1:Option Addr) (n1 c1:Nat) (a2:Option Addr) (n2 c2:Nat) (a3:Option Addr) (n3 c3:Nat) (a4:Option Addr) (n4 c4:Nat),Num W a1 n1 m1→Num W a2 n2 d1→Num W a3 n3 m2→Num W a4 n4 d2 →
   (∀ W:World,Num W a1 n1 m1→Num W a2 n2 d1→Calls Tryz.prog 20 #[.agg #[.bool s,.slice a1 n1 c1,.slice a2 n2 c2]] W fun e W'=>e = .returned (.int .i64 0)∧Below W.heap.size W W') →
   (∀ W:World,Num W a3 n3 m2→Num W a4 n4 d2→Calls Tryz.prog 20 #[.agg #[.bool t,.slice a3 n3 c3,.slice a4 n4 c4]] W fun e W'=>e = .returned (.int .i64 0)∧Below W.heap.size W W') →
   Calls Tryz.prog 15 #[.agg #[.bool s,.slice a1 n1 c1,.slice a2 n2 c2],.agg #[.bool t,.slice a3 n3 c3,.slice a4 n4 c4]] W fun en W'=>(∃ A N C A' N' C',en = .returned (.tuple #[.agg #[.bool g,.slice A N C,.slice A' N' C'],.int .i64 0])∧Mine W' W.heap.size A N C z∧Mine W' W.heap.size A' N' C' dn)∧Below W.heap.size W W':=by
 obtain ⟨g,z,dn,hq,hb⟩:=dif_ok h hx hy
 exact ⟨g,z,dn,hq,fun W a1 n1 c1 a2 n2 c2 a3 n3 c3 a4 n4 c4 h1 h2 h3 h4 k1 k2=>zsub_is W a1 a2 a3 a4 n1 n2 n3 n4 c1 c2 c3 c4 m1 d1 m2 d2 s t g z dn h1 h2 h3 h4 (hide k1) (hide k2) (hide hb)⟩
end Go.Proofs.YtfjegmlpkiaifaaGreatDoor
