/- Of what DecBackRow stands on: DcNum DcMulW DcCutW. -/
import Derived.Test.YtpmmapoabbpaiaaGreatPak
import Derived.Test.YtpmmapoabbpaiaaGreatPas
import Derived.Test.YtpmmapoabbpaiaaGreatPau
import Derived.Test.YtpmmapoabbpaiaaGreatPan
import Derived.Test.YtpmmapoabbpaiaaGreatPal
import Derived.Test.YtpmmapoabbpaiaaGreatPaf
namespace Go.Proofs.YtpmmapoabbpaiaaGreat
open Go.RowKit
set_option maxHeartbeats 2000000
set_option maxRecDepth 20000
theorem dv2 {P:Prop} (h:P):P:=h
theorem tk_no (w:World) (a:Option Addr) (n c m:Nat) (a':Option Addr) (n' c' f:Nat) (q r:Nat) (h:Num w a n m) (h':Num w a' n' f) (hr:r≠0) (HD:Hid (∀ (W:World) (a:Option Addr) (n c:Nat) (a':Option Addr) (n' c':Nat),Num W a n m→Num W a' n' f→Calls Tryz.prog 107 #[.agg #[.slice a n c],.agg #[.slice a' n' c']] W fun en W'=>(∃ a n c a' n' c',en = .returned (.tuple #[.agg #[.slice a n c],.agg #[.slice a' n' c'],.int .i64 0])∧Mine W' W.heap.size a n c q∧Mine W' W.heap.size a' n' c' r)∧Below W.heap.size W W'))  :
  Calls Tryz.prog 74 #[.agg #[.slice a n c],.agg #[.slice a' n' c']] w fun en w'=>en = .returned (.tuple #[.agg #[.slice a n c],.int .i64 0])∧Below w.heap.size w w':=by
 refine calls_sym Tryz.func74 rfl (by kernel_rfl) fun T hK=>?_
 replace hK:Kn T _ [(0,.agg #[.slice a n c]),(1,.agg #[.slice a' n' c'])]:=hK
 have hS:=Fb.begin w
 have hG:GsAt [gN a n m,gN a' n' f] w:=⟨h,h',trivial⟩
 refine wq hS hG hK (fun p1=>[.n 2 #[.slice a n c] 26,.n 3 #[.slice a' n' c'] 26,.n 4 #[.slice none 0 0] 26,.v 5 (.int .i64 0)]) (fun p1=>[(2,pT (p1 0).N 0),(3,pT (p1 1).N 0),(4,pT (p1 2).N 0),(5,.int .i64 0)]) (fun p1=>?_) (fun p1 W1 T hF hK=>?_)
 ·iterate 3 refine okn ?_
  refine okv ?_
  exact ok_nil
 replace hS:=SymF.fc hS hF [1000,1001,1002] [⟨(p1 0).N,#[.slice a n c],26,true⟩,⟨(p1 1).N,#[.slice a' n' c'],26,true⟩,⟨(p1 2).N,#[.slice none 0 0],26,true⟩]
 replace hG:=hF.gx
 clear hF
 refine wq hS hG hK (fun p2=>[.l 10 (.agg #[.slice a n c]) 0 0,.l 11 (.agg #[.slice a' n' c']) 1 0,.c (some 12) (cH W1.heap.size q r fun x9 y9=>.tuple #[.agg #[x9],.agg #[y9],.int .i64 0]),.v 9 (.tuple #[.agg #[.slice (p2 2).A (p2 2).N (p2 2).C],.agg #[.slice (p2 2).A' (p2 2).N' (p2 2).C'],.int .i64 0]),.v 13 (.agg #[.slice (p2 2).A (p2 2).N (p2 2).C]),.v 14 (.agg #[.slice (p2 2).A' (p2 2).N' (p2 2).C']),.v 15 (.int .i64 0),.n 6 #[.slice none 0 0] 26,.n 7 #[.slice none 0 0] 26,.p 1007 0 [.slice (p2 2).A (p2 2).N (p2 2).C],.p 1008 0 [.slice (p2 2).A' (p2 2).N' (p2 2).C'],.v 8 (.int .i64 0)]) (fun p2=>[(2,pT (p1 0).N 0),(4,pT (p1 2).N 0),(5,.int .i64 0),(6,pT (p2 7).N 0),(7,pT (p2 8).N 0),(8,.int .i64 0)]) (fun p2=>?_) (fun p2 W2 T hF hK=>?_)
 ·iterate 2 refine okl ?_
  refine okc (fun W cx=>as_h cx.hb (dv2 (unhide HD _ _ _ c _ _ c' (cx.G.1) (cx.G.2.1)))) ?_
  iterate 4 refine okv ?_
  iterate 2 refine okn ?_
  iterate 2 refine okp ?_
  refine okv ?_
  exact ok_nil
 replace hS:=SymF.fc hS hF [0,2,1007,1008] [⟨(p1 0).N,#[.slice a n c],26,true⟩,⟨(p1 2).N,#[.slice none 0 0],26,true⟩,⟨(p2 7).N,#[.slice (p2 2).A (p2 2).N (p2 2).C],26,true⟩,⟨(p2 8).N,#[.slice (p2 2).A' (p2 2).N' (p2 2).C'],26,true⟩]
 replace hG:GsAt (gM W1.heap.size (p2 2).A (p2 2).N (p2 2).C q :: gM W1.heap.size (p2 2).A' (p2 2).N' (p2 2).C' r :: _) W2:=⟨And.left (hF.fx 2),And.right (hF.fx 2),hF.gx⟩
 clear hF
 refine wp_seq ?_
 refine wq hS hG hK (fun p3=>[.v 16 (.int .i64 0),.v 17 (.bool false),.v 18 (.bool false),.v 19 (pT (p2 8).N 0),.l 20 (.slice (p2 2).A' (p2 2).N' (p2 2).C') 3 0,.v 21 (.int .i64 ((p2 2).N':Int)),.v 22 (.bool true),.v 23 (.bool true)]) (fun p3=>[(2,pT (p1 0).N 0),(4,pT (p1 2).N 0),(5,.int .i64 0),(6,pT (p2 7).N 0),(23,.bool true)]) (fun p3=>?_) (fun p3 W3 T hF hK=>?_)
 ·iterate 4 refine okv ?_
  refine okl ?_
  refine okv ?_
  refine okvb (decide_eq_true (show (((p2 2).N':Nat):Int) > 0 from by have:=(Mine.num hG.2.1).zero; omega)) ?_
  refine okv ?_
  exact ok_nil
 replace hS:=SymF.fc hS hF [0,1,2] [⟨(p1 0).N,#[.slice a n c],26,true⟩,⟨(p1 2).N,#[.slice none 0 0],26,true⟩,⟨(p2 7).N,#[.slice (p2 2).A (p2 2).N (p2 2).C],26,true⟩]
 replace hG:=hF.gx
 clear hF
 refine wp_cond_true (hK.ew 23) ?_
 refine wq hS hG hK (fun p4=>[.l 24 (.agg #[.slice a n c]) 0 0,.p 1 0 [.slice a n c],.v 5 (.int .i64 0)]) (fun p4=>[(4,pT (p1 2).N 0),(5,.int .i64 0),(6,pT (p2 7).N 0),(23,.bool true)]) (fun p4=>?_) (fun p4 W4 T hF hK=>?_)
 ·refine okl ?_
  refine okp ?_
  refine okv ?_
  exact ok_nil
 replace hS:=SymF.fc hS hF [1,2] [⟨(p1 2).N,#[.slice a n c],26,true⟩,⟨(p2 7).N,#[.slice (p2 2).A (p2 2).N (p2 2).C],26,true⟩]
 replace hG:=hF.gx
 clear hF
 refine wp_ret ?_
 refine then_r ?_
 exact sym_end hS hK (.tuple #[.agg #[.slice a n c],.int .i64 0]) [(0,0,1)] [.slice a n c] (by kernel_rfl) (by kernel_rfl) ⟨rfl,hS.fr⟩
theorem tk_yes (w:World) (a:Option Addr) (n c m:Nat) (a':Option Addr) (n' c' f:Nat) (q r:Nat) (h:Num w a n m) (h':Num w a' n' f) (hr:r = 0) (HD:Hid (∀ (W:World) (a:Option Addr) (n c:Nat) (a':Option Addr) (n' c':Nat),Num W a n m→Num W a' n' f→Calls Tryz.prog 107 #[.agg #[.slice a n c],.agg #[.slice a' n' c']] W fun en W'=>(∃ a n c a' n' c',en = .returned (.tuple #[.agg #[.slice a n c],.agg #[.slice a' n' c'],.int .i64 0])∧Mine W' W.heap.size a n c q∧Mine W' W.heap.size a' n' c' r)∧Below W.heap.size W W'))  :
  Calls Tryz.prog 74 #[.agg #[.slice a n c],.agg #[.slice a' n' c']] w fun en w'=>(∃ A N C,en = .returned (.tuple #[.agg #[.slice A N C],.int .i64 1])∧Mine w' w.heap.size A N C q)∧Below w.heap.size w w':=by
 refine calls_sym Tryz.func74 rfl (by kernel_rfl) fun T hK=>?_
 replace hK:Kn T _ [(0,.agg #[.slice a n c]),(1,.agg #[.slice a' n' c'])]:=hK
 have hS:=Fb.begin w
 have hG:GsAt [gN a n m,gN a' n' f] w:=⟨h,h',trivial⟩
 refine wq hS hG hK (fun p1=>[.n 2 #[.slice a n c] 26,.n 3 #[.slice a' n' c'] 26,.n 4 #[.slice none 0 0] 26,.v 5 (.int .i64 0)]) (fun p1=>[(2,pT (p1 0).N 0),(3,pT (p1 1).N 0),(4,pT (p1 2).N 0),(5,.int .i64 0)]) (fun p1=>?_) (fun p1 W1 T hF hK=>?_)
 ·iterate 3 refine okn ?_
  refine okv ?_
  exact ok_nil
 replace hS:=SymF.fc hS hF [1000,1001,1002] [⟨(p1 0).N,#[.slice a n c],26,true⟩,⟨(p1 1).N,#[.slice a' n' c'],26,true⟩,⟨(p1 2).N,#[.slice none 0 0],26,true⟩]
 replace hG:=hF.gx
 clear hF
 have z1:=hS.fr.size
 refine wq hS hG hK (fun p2=>[.l 10 (.agg #[.slice a n c]) 0 0,.l 11 (.agg #[.slice a' n' c']) 1 0,.c (some 12) (cH W1.heap.size q r fun x9 y9=>.tuple #[.agg #[x9],.agg #[y9],.int .i64 0]),.v 9 (.tuple #[.agg #[.slice (p2 2).A (p2 2).N (p2 2).C],.agg #[.slice (p2 2).A' (p2 2).N' (p2 2).C'],.int .i64 0]),.v 13 (.agg #[.slice (p2 2).A (p2 2).N (p2 2).C]),.v 14 (.agg #[.slice (p2 2).A' (p2 2).N' (p2 2).C']),.v 15 (.int .i64 0),.n 6 #[.slice none 0 0] 26,.n 7 #[.slice none 0 0] 26,.p 1007 0 [.slice (p2 2).A (p2 2).N (p2 2).C],.p 1008 0 [.slice (p2 2).A' (p2 2).N' (p2 2).C'],.v 8 (.int .i64 0)]) (fun p2=>[(2,pT (p1 0).N 0),(4,pT (p1 2).N 0),(5,.int .i64 0),(6,pT (p2 7).N 0),(7,pT (p2 8).N 0),(8,.int .i64 0)]) (fun p2=>?_) (fun p2 W2 T hF hK=>?_)
 ·iterate 2 refine okl ?_
  refine okc (fun W cx=>as_h cx.hb (dv2 (unhide HD _ _ _ c _ _ c' (cx.G.1) (cx.G.2.1)))) ?_
  iterate 4 refine okv ?_
  iterate 2 refine okn ?_
  iterate 2 refine okp ?_
  refine okv ?_
  exact ok_nil
 replace hS:=SymF.fc hS hF [0,2,1007,1008] [⟨(p1 0).N,#[.slice a n c],26,true⟩,⟨(p1 2).N,#[.slice none 0 0],26,true⟩,⟨(p2 7).N,#[.slice (p2 2).A (p2 2).N (p2 2).C],26,true⟩,⟨(p2 8).N,#[.slice (p2 2).A' (p2 2).N' (p2 2).C'],26,true⟩]
 replace hG:GsAt (gM W1.heap.size (p2 2).A (p2 2).N (p2 2).C q :: gM W1.heap.size (p2 2).A' (p2 2).N' (p2 2).C' r :: _) W2:=⟨And.left (hF.fx 2),And.right (hF.fx 2),hF.gx⟩
 clear hF
 refine wp_seq ?_
 refine wq hS hG hK (fun p3=>[.v 16 (.int .i64 0),.v 17 (.bool false),.v 18 (.bool false),.v 19 (pT (p2 8).N 0),.l 20 (.slice (p2 2).A' (p2 2).N' (p2 2).C') 3 0,.v 21 (.int .i64 ((p2 2).N':Int)),.v 22 (.bool false),.v 23 (.bool false)]) (fun p3=>[(2,pT (p1 0).N 0),(4,pT (p1 2).N 0),(5,.int .i64 0),(6,pT (p2 7).N 0),(23,.bool false)]) (fun p3=>?_) (fun p3 W3 T hF hK=>?_)
 ·iterate 4 refine okv ?_
  refine okl ?_
  refine okv ?_
  refine okvb (decide_eq_false (show ¬ (((p2 2).N':Nat):Int) > 0 from by have:=(Mine.num hG.2.1).zero; omega)) ?_
  refine okv ?_
  exact ok_nil
 replace hS:=SymF.fc hS hF [0,1,2] [⟨(p1 0).N,#[.slice a n c],26,true⟩,⟨(p1 2).N,#[.slice none 0 0],26,true⟩,⟨(p2 7).N,#[.slice (p2 2).A (p2 2).N (p2 2).C],26,true⟩]
 replace hG:=hF.gx
 clear hF
 refine wp_cond_false (hK.ew 23) (wp_skip (then_n ?_))
 refine wq hS hG hK (fun p4=>[.l 25 (.agg #[.slice (p2 2).A (p2 2).N (p2 2).C]) 2 0,.p 1 0 [.slice (p2 2).A (p2 2).N (p2 2).C],.v 5 (.int .i64 1)]) (fun p4=>[(2,pT (p1 0).N 0),(4,pT (p1 2).N 0),(5,.int .i64 1),(23,.bool false)]) (fun p4=>?_) (fun p4 W4 T hF hK=>?_)
 ·refine okl ?_
  refine okp ?_
  refine okv ?_
  exact ok_nil
 replace hS:=SymF.fc hS hF [0,1] [⟨(p1 0).N,#[.slice a n c],26,true⟩,⟨(p1 2).N,#[.slice (p2 2).A (p2 2).N (p2 2).C],26,true⟩]
 replace hG:=hF.gx
 clear hF
 refine wp_ret ?_
 exact sym_end hS hK (.tuple #[.agg #[.slice (p2 2).A (p2 2).N (p2 2).C],.int .i64 1]) [(1,0,1)] [.slice (p2 2).A (p2 2).N (p2 2).C] (by kernel_rfl) (by kernel_rfl) ⟨⟨_,_,_,rfl,Mine.mono hG.1 z1⟩,hS.fr⟩
theorem wo_0 (w:World) (a:Option Addr) (n c m:Nat) (a':Option Addr) (n' c' f:Nat) (h:Num w a n m) (h':Num w a' n' f) (H1:Hid (∀ (W:World) (a:Option Addr) (n c:Nat) (a':Option Addr) (n' c':Nat),Num W a n m→Num W a' n' f→Calls Tryz.prog 74 #[.agg #[.slice a n c],.agg #[.slice a' n' c']] W fun en W'=>en = .returned (.tuple #[.agg #[.slice a n c],.int .i64 0])∧Below W.heap.size W W'))  :
  Calls Tryz.prog 30 #[.agg #[.slice a n c],.agg #[.slice a' n' c']] w fun en w'=>en = .returned (.tuple #[.agg #[.slice a n c],.int .i64 0])∧Below w.heap.size w w':=by
 refine calls_sym Tryz.func30 rfl (by kernel_rfl) fun T hK=>?_
 replace hK:Kn T _ [(0,.agg #[.slice a n c]),(1,.agg #[.slice a' n' c'])]:=hK
 have hS:=Fb.begin w
 have hG:GsAt [gN a n m,gN a' n' f] w:=⟨h,h',trivial⟩
 refine wq hS hG hK (fun p1=>[.n 2 #[.slice a n c] 26,.n 3 #[.slice a' n' c'] 26,.n 4 #[.slice none 0 0] 26,.v 5 (.int .i64 0)]) (fun p1=>[(2,pT (p1 0).N 0),(3,pT (p1 1).N 0),(4,pT (p1 2).N 0),(5,.int .i64 0)]) (fun p1=>?_) (fun p1 W1 T hF hK=>?_)
 ·iterate 3 refine okn ?_
  refine okv ?_
  exact ok_nil
 replace hS:=SymF.fc hS hF [1000,1001,1002] [⟨(p1 0).N,#[.slice a n c],26,true⟩,⟨(p1 1).N,#[.slice a' n' c'],26,true⟩,⟨(p1 2).N,#[.slice none 0 0],26,true⟩]
 replace hG:=hF.gx
 clear hF
 refine wq hS hG hK (fun p2=>[.l 13 (.agg #[.slice a n c]) 0 0,.l 14 (.agg #[.slice a' n' c']) 1 0,.c (some 15) (cV (.tuple #[.agg #[.slice a n c],.int .i64 0])),.v 12 (.tuple #[.agg #[.slice a n c],.int .i64 0]),.v 16 (.agg #[.slice a n c]),.v 17 (.int .i64 0),.p 0 0 [.slice a n c],.v 6 (.int .i64 0)]) (fun p2=>[(2,pT (p1 0).N 0),(3,pT (p1 1).N 0),(4,pT (p1 2).N 0),(5,.int .i64 0),(6,.int .i64 0)]) (fun p2=>?_) (fun p2 W2 T hF hK=>?_)
 ·iterate 2 refine okl ?_
  refine okc (fun W cx=>as_v (unhide H1 _ _ _ c _ _ c' (cx.G.1) (cx.G.2.1))) ?_
  iterate 3 refine okv ?_
  refine okp ?_
  refine okv ?_
  exact ok_nil
 obtain ⟨hS,hG⟩:=SymF.fg hS hF
 clear hF
 refine wp_seq ?_
 refine wq hS hG hK (fun p3=>[.v 18 (.int .i64 0),.v 19 (.bool true)]) (fun p3=>[(2,pT (p1 0).N 0),(3,pT (p1 1).N 0),(4,pT (p1 2).N 0),(5,.int .i64 0),(6,.int .i64 0),(19,.bool true)]) (fun p3=>?_) (fun p3 W3 T hF hK=>?_)
 ·iterate 2 refine okv ?_
  exact ok_nil
 obtain ⟨hS,hG⟩:=SymF.fg hS hF
 clear hF
 refine wp_cond_true (hK.ew 19) ?_
 refine wq hS hG hK (fun p4=>[.l 20 (.agg #[.slice a n c]) 0 0,.p 2 0 [.slice a n c],.v 5 (.int .i64 0)]) (fun p4=>[(2,pT (p1 0).N 0),(3,pT (p1 1).N 0),(4,pT (p1 2).N 0),(5,.int .i64 0),(6,.int .i64 0),(19,.bool true)]) (fun p4=>?_) (fun p4 W4 T hF hK=>?_)
 ·refine okl ?_
  refine okp ?_
  refine okv ?_
  exact ok_nil
 replace hS:=SymF.fc hS hF [0,1,2] [⟨(p1 0).N,#[.slice a n c],26,true⟩,⟨(p1 1).N,#[.slice a' n' c'],26,true⟩,⟨(p1 2).N,#[.slice a n c],26,true⟩]
 replace hG:=hF.gx
 clear hF
 refine wp_ret ?_
 refine then_r ?_
 exact sym_end hS hK (.tuple #[.agg #[.slice a n c],.int .i64 0]) [(2,0,1)] [.slice a n c] (by kernel_rfl) (by kernel_rfl) ⟨rfl,hS.fr⟩
theorem wo_over (w:World) (a:Option Addr) (n c m:Nat) (a':Option Addr) (n' c' f:Nat) (q:Nat) (h:Num w a n m) (h':Num w a' n' f) (H1:Hid (∀ (W:World) (a:Option Addr) (n c:Nat) (a':Option Addr) (n' c':Nat),Num W a n m→Num W a' n' f→Calls Tryz.prog 74 #[.agg #[.slice a n c],.agg #[.slice a' n' c']] W fun en W'=>(∃ a n c,en = .returned (.tuple #[.agg #[.slice a n c],.int .i64 1])∧Mine W' W.heap.size a n c q)∧Below W.heap.size W W')) (HQ:Hid (∀ (W:World) (a:Option Addr) (n c:Nat) (a':Option Addr) (n' c':Nat),Num W a n f→Num W a' n' f→Calls Tryz.prog 25 #[.agg #[.slice a n c],.agg #[.slice a' n' c']] W fun en W'=>en = .returned (.tuple #[.agg #[.slice none 0 0],.int .i64 4])∧Below W.heap.size W W')) (H2:Hid (∀ (W:World) (a:Option Addr) (n c:Nat) (a':Option Addr) (n' c':Nat),Num W a n q→Num W a' n' f→Calls Tryz.prog 74 #[.agg #[.slice a n c],.agg #[.slice a' n' c']] W fun en W'=>en = .returned (.tuple #[.agg #[.slice a n c],.int .i64 0])∧Below W.heap.size W W'))  :
  Calls Tryz.prog 30 #[.agg #[.slice a n c],.agg #[.slice a' n' c']] w fun en w'=>(∃ A N C,en = .returned (.tuple #[.agg #[.slice A N C],.int .i64 1])∧Mine w' w.heap.size A N C q)∧Below w.heap.size w w':=by
 refine calls_sym Tryz.func30 rfl (by kernel_rfl) fun T hK=>?_
 replace hK:Kn T _ [(0,.agg #[.slice a n c]),(1,.agg #[.slice a' n' c'])]:=hK
 have hS:=Fb.begin w
 have hG:GsAt [gN a n m,gN a' n' f] w:=⟨h,h',trivial⟩
 refine wq hS hG hK (fun p1=>[.n 2 #[.slice a n c] 26,.n 3 #[.slice a' n' c'] 26,.n 4 #[.slice none 0 0] 26,.v 5 (.int .i64 0)]) (fun p1=>[(2,pT (p1 0).N 0),(3,pT (p1 1).N 0),(4,pT (p1 2).N 0),(5,.int .i64 0)]) (fun p1=>?_) (fun p1 W1 T hF hK=>?_)
 ·iterate 3 refine okn ?_
  refine okv ?_
  exact ok_nil
 replace hS:=SymF.fc hS hF [1000,1001,1002] [⟨(p1 0).N,#[.slice a n c],26,true⟩,⟨(p1 1).N,#[.slice a' n' c'],26,true⟩,⟨(p1 2).N,#[.slice none 0 0],26,true⟩]
 replace hG:=hF.gx
 clear hF
 have z1:=hS.fr.size
 refine wq hS hG hK (fun p2=>[.l 13 (.agg #[.slice a n c]) 0 0,.l 14 (.agg #[.slice a' n' c']) 1 0,.c (some 15) (cG W1.heap.size q fun x9=>.tuple #[.agg #[x9],.int .i64 1]),.v 12 (.tuple #[.agg #[.slice (p2 2).A (p2 2).N (p2 2).C],.int .i64 1]),.v 16 (.agg #[.slice (p2 2).A (p2 2).N (p2 2).C]),.v 17 (.int .i64 1),.p 0 0 [.slice (p2 2).A (p2 2).N (p2 2).C],.v 6 (.int .i64 1)]) (fun p2=>[(2,pT (p1 0).N 0),(3,pT (p1 1).N 0),(4,pT (p1 2).N 0),(5,.int .i64 0),(6,.int .i64 1)]) (fun p2=>?_) (fun p2 W2 T hF hK=>?_)
 ·iterate 2 refine okl ?_
  refine okc (fun W cx=>as_g cx.hb (unhide H1 _ _ _ c _ _ c' (cx.G.1) (cx.G.2.1))) ?_
  iterate 3 refine okv ?_
  refine okp ?_
  refine okv ?_
  exact ok_nil
 replace hS:=SymF.fc hS hF [0,1,2] [⟨(p1 0).N,#[.slice (p2 2).A (p2 2).N (p2 2).C],26,true⟩,⟨(p1 1).N,#[.slice a' n' c'],26,true⟩,⟨(p1 2).N,#[.slice none 0 0],26,true⟩]
 replace hG:GsAt (gM W1.heap.size (p2 2).A (p2 2).N (p2 2).C q :: _) W2:=⟨hF.fx 2,hF.gx⟩
 clear hF
 refine wp_seq ?_
 refine wq hS hG hK (fun p3=>[.v 18 (.int .i64 1),.v 19 (.bool false)]) (fun p3=>[(2,pT (p1 0).N 0),(3,pT (p1 1).N 0),(4,pT (p1 2).N 0),(5,.int .i64 0),(6,.int .i64 1),(19,.bool false)]) (fun p3=>?_) (fun p3 W3 T hF hK=>?_)
 ·iterate 2 refine okv ?_
  exact ok_nil
 obtain ⟨hS,hG⟩:=SymF.fg hS hF
 clear hF
 refine wp_cond_false (hK.ew 19) (wp_skip ?_)
 refine then_n (wp_seq ?_)
 refine wq hS hG hK (fun p4=>[.l 22 (.agg #[.slice a' n' c']) 1 0,.l 23 (.agg #[.slice a' n' c']) 1 0,.c (some 24) (cV (.tuple #[.agg #[.slice none 0 0],.int .i64 4])),.v 21 (.tuple #[.agg #[.slice none 0 0],.int .i64 4]),.v 25 (.agg #[.slice none 0 0]),.v 26 (.int .i64 4),.n 7 #[.slice none 0 0] 26,.p 1006 0 [.slice none 0 0],.v 8 (.int .i64 4)]) (fun p4=>[(2,pT (p1 0).N 0),(3,pT (p1 1).N 0),(4,pT (p1 2).N 0),(5,.int .i64 0),(6,.int .i64 1),(7,pT (p4 6).N 0),(8,.int .i64 4),(19,.bool false)]) (fun p4=>?_) (fun p4 W4 T hF hK=>?_)
 ·iterate 2 refine okl ?_
  refine okc (fun W cx=>as_v (unhide HQ _ _ _ c' _ _ c' (cx.G.2.2.1) (cx.G.2.2.1))) ?_
  iterate 3 refine okv ?_
  refine okn ?_
  refine okp ?_
  refine okv ?_
  exact ok_nil
 replace hS:=SymF.fc hS hF [0,1,2,1006] [⟨(p1 0).N,#[.slice (p2 2).A (p2 2).N (p2 2).C],26,true⟩,⟨(p1 1).N,#[.slice a' n' c'],26,true⟩,⟨(p1 2).N,#[.slice none 0 0],26,true⟩,⟨(p4 6).N,#[.slice none 0 0],26,true⟩]
 replace hG:=hF.gx
 clear hF
 refine wq hS hG hK (fun p5=>[.v 27 (.int .i64 4),.v 28 (.bool false)]) (fun p5=>[(2,pT (p1 0).N 0),(3,pT (p1 1).N 0),(4,pT (p1 2).N 0),(5,.int .i64 0),(6,.int .i64 1),(7,pT (p4 6).N 0),(19,.bool false),(28,.bool false)]) (fun p5=>?_) (fun p5 W5 T hF hK=>?_)
 ·iterate 2 refine okv ?_
  exact ok_nil
 obtain ⟨hS,hG⟩:=SymF.fg hS hF
 clear hF
 refine wp_cond_false (hK.ew 28) (wp_skip (then_n ?_))
 refine wq hS hG hK (fun p6=>[.l 41 (.agg #[.slice (p2 2).A (p2 2).N (p2 2).C]) 0 0,.l 42 (.agg #[.slice a' n' c']) 1 0,.c (some 43) (cV (.tuple #[.agg #[.slice (p2 2).A (p2 2).N (p2 2).C],.int .i64 0])),.v 40 (.tuple #[.agg #[.slice (p2 2).A (p2 2).N (p2 2).C],.int .i64 0]),.v 44 (.agg #[.slice (p2 2).A (p2 2).N (p2 2).C]),.v 45 (.int .i64 0),.p 0 0 [.slice (p2 2).A (p2 2).N (p2 2).C],.v 11 (.int .i64 0)]) (fun p6=>[(2,pT (p1 0).N 0),(4,pT (p1 2).N 0),(5,.int .i64 0),(6,.int .i64 1),(7,pT (p4 6).N 0),(11,.int .i64 0),(19,.bool false),(28,.bool false)]) (fun p6=>?_) (fun p6 W6 T hF hK=>?_)
 ·iterate 2 refine okl ?_
  refine okc (fun W cx=>as_v (unhide H2 _ _ _ (p2 2).C _ _ c' (Mine.num cx.G.1) (cx.G.2.2.1))) ?_
  iterate 3 refine okv ?_
  refine okp ?_
  refine okv ?_
  exact ok_nil
 replace hS:=SymF.fc hS hF [0,2,3] [⟨(p1 0).N,#[.slice (p2 2).A (p2 2).N (p2 2).C],26,true⟩,⟨(p1 2).N,#[.slice none 0 0],26,true⟩,⟨(p4 6).N,#[.slice none 0 0],26,true⟩]
 replace hG:=hF.gx
 clear hF
 refine wq hS hG hK (fun p7=>[.l 46 (.agg #[.slice (p2 2).A (p2 2).N (p2 2).C]) 0 0,.v 47 (.int .i64 1),.v 48 (.int .i64 0),.v 49 (.int .i64 1),.p 1 0 [.slice (p2 2).A (p2 2).N (p2 2).C],.v 5 (.int .i64 1)]) (fun p7=>[(2,pT (p1 0).N 0),(4,pT (p1 2).N 0),(5,.int .i64 1),(6,.int .i64 1),(7,pT (p4 6).N 0),(19,.bool false),(28,.bool false)]) (fun p7=>?_) (fun p7 W7 T hF hK=>?_)
 ·refine okl ?_
  iterate 3 refine okv ?_
  refine okp ?_
  refine okv ?_
  exact ok_nil
 replace hS:=SymF.fc hS hF [0,1,2] [⟨(p1 0).N,#[.slice (p2 2).A (p2 2).N (p2 2).C],26,true⟩,⟨(p1 2).N,#[.slice (p2 2).A (p2 2).N (p2 2).C],26,true⟩,⟨(p4 6).N,#[.slice none 0 0],26,true⟩]
 replace hG:=hF.gx
 clear hF
 refine wp_ret ?_
 exact sym_end hS hK (.tuple #[.agg #[.slice (p2 2).A (p2 2).N (p2 2).C],.int .i64 1]) [(1,0,1)] [.slice (p2 2).A (p2 2).N (p2 2).C] (by kernel_rfl) (by kernel_rfl) ⟨⟨_,_,_,rfl,Mine.mono hG.1 z1⟩,hS.fr⟩
theorem wo_00 (w:World) (a:Option Addr) (n c m:Nat) (a':Option Addr) (n' c' f:Nat) (q f2:Nat) (h:Num w a n m) (h':Num w a' n' f) (H1:Hid (∀ (W:World) (a:Option Addr) (n c:Nat) (a':Option Addr) (n' c':Nat),Num W a n m→Num W a' n' f→Calls Tryz.prog 74 #[.agg #[.slice a n c],.agg #[.slice a' n' c']] W fun en W'=>(∃ a n c,en = .returned (.tuple #[.agg #[.slice a n c],.int .i64 1])∧Mine W' W.heap.size a n c q)∧Below W.heap.size W W')) (HQ:Hid (∀ (W:World) (a:Option Addr) (n c:Nat) (a':Option Addr) (n' c':Nat),Num W a n f→Num W a' n' f→Calls Tryz.prog 25 #[.agg #[.slice a n c],.agg #[.slice a' n' c']] W fun en W'=>(∃ a n c,en = .returned (.tuple #[.agg #[.slice a n c],.int .i64 0])∧Mine W' W.heap.size a n c f2)∧Below W.heap.size W W')) (HW:Hid (∀ (W:World) (a:Option Addr) (n c:Nat) (a':Option Addr) (n' c':Nat),Num W a n q→Num W a' n' f2→Calls Tryz.prog 30 #[.agg #[.slice a n c],.agg #[.slice a' n' c']] W fun en W'=>en = .returned (.tuple #[.agg #[.slice a n c],.int .i64 0])∧Below W.heap.size W W')) (H2:Hid (∀ (W:World) (a:Option Addr) (n c:Nat) (a':Option Addr) (n' c':Nat),Num W a n q→Num W a' n' f→Calls Tryz.prog 74 #[.agg #[.slice a n c],.agg #[.slice a' n' c']] W fun en W'=>en = .returned (.tuple #[.agg #[.slice a n c],.int .i64 0])∧Below W.heap.size W W'))  :
  Calls Tryz.prog 30 #[.agg #[.slice a n c],.agg #[.slice a' n' c']] w fun en w'=>(∃ A N C,en = .returned (.tuple #[.agg #[.slice A N C],.int .i64 1])∧Mine w' w.heap.size A N C q)∧Below w.heap.size w w':=by
 refine calls_sym Tryz.func30 rfl (by kernel_rfl) fun T hK=>?_
 replace hK:Kn T _ [(0,.agg #[.slice a n c]),(1,.agg #[.slice a' n' c'])]:=hK
 have hS:=Fb.begin w
 have hG:GsAt [gN a n m,gN a' n' f] w:=⟨h,h',trivial⟩
 refine wq hS hG hK (fun p1=>[.n 2 #[.slice a n c] 26,.n 3 #[.slice a' n' c'] 26,.n 4 #[.slice none 0 0] 26,.v 5 (.int .i64 0)]) (fun p1=>[(2,pT (p1 0).N 0),(3,pT (p1 1).N 0),(4,pT (p1 2).N 0),(5,.int .i64 0)]) (fun p1=>?_) (fun p1 W1 T hF hK=>?_)
 ·iterate 3 refine okn ?_
  refine okv ?_
  exact ok_nil
 replace hS:=SymF.fc hS hF [1000,1001,1002] [⟨(p1 0).N,#[.slice a n c],26,true⟩,⟨(p1 1).N,#[.slice a' n' c'],26,true⟩,⟨(p1 2).N,#[.slice none 0 0],26,true⟩]
 replace hG:=hF.gx
 clear hF
 have z1:=hS.fr.size
 refine wq hS hG hK (fun p2=>[.l 13 (.agg #[.slice a n c]) 0 0,.l 14 (.agg #[.slice a' n' c']) 1 0,.c (some 15) (cG W1.heap.size q fun x9=>.tuple #[.agg #[x9],.int .i64 1]),.v 12 (.tuple #[.agg #[.slice (p2 2).A (p2 2).N (p2 2).C],.int .i64 1]),.v 16 (.agg #[.slice (p2 2).A (p2 2).N (p2 2).C]),.v 17 (.int .i64 1),.p 0 0 [.slice (p2 2).A (p2 2).N (p2 2).C],.v 6 (.int .i64 1)]) (fun p2=>[(2,pT (p1 0).N 0),(3,pT (p1 1).N 0),(4,pT (p1 2).N 0),(5,.int .i64 0),(6,.int .i64 1)]) (fun p2=>?_) (fun p2 W2 T hF hK=>?_)
 ·iterate 2 refine okl ?_
  refine okc (fun W cx=>as_g cx.hb (unhide H1 _ _ _ c _ _ c' (cx.G.1) (cx.G.2.1))) ?_
  iterate 3 refine okv ?_
  refine okp ?_
  refine okv ?_
  exact ok_nil
 replace hS:=SymF.fc hS hF [0,1,2] [⟨(p1 0).N,#[.slice (p2 2).A (p2 2).N (p2 2).C],26,true⟩,⟨(p1 1).N,#[.slice a' n' c'],26,true⟩,⟨(p1 2).N,#[.slice none 0 0],26,true⟩]
 replace hG:GsAt (gM W1.heap.size (p2 2).A (p2 2).N (p2 2).C q :: _) W2:=⟨hF.fx 2,hF.gx⟩
 clear hF
 refine wp_seq ?_
 refine wq hS hG hK (fun p3=>[.v 18 (.int .i64 1),.v 19 (.bool false)]) (fun p3=>[(2,pT (p1 0).N 0),(3,pT (p1 1).N 0),(4,pT (p1 2).N 0),(5,.int .i64 0),(6,.int .i64 1),(19,.bool false)]) (fun p3=>?_) (fun p3 W3 T hF hK=>?_)
 ·iterate 2 refine okv ?_
  exact ok_nil
 obtain ⟨hS,hG⟩:=SymF.fg hS hF
 clear hF
 refine wp_cond_false (hK.ew 19) (wp_skip ?_)
 refine then_n (wp_seq ?_)
 refine wq hS hG hK (fun p4=>[.l 22 (.agg #[.slice a' n' c']) 1 0,.l 23 (.agg #[.slice a' n' c']) 1 0,.c (some 24) (cO W3.heap.size f2),.v 21 (.tuple #[.agg #[.slice (p4 2).A (p4 2).N (p4 2).C],.int .i64 0]),.v 25 (.agg #[.slice (p4 2).A (p4 2).N (p4 2).C]),.v 26 (.int .i64 0),.n 7 #[.slice none 0 0] 26,.p 1006 0 [.slice (p4 2).A (p4 2).N (p4 2).C],.v 8 (.int .i64 0)]) (fun p4=>[(2,pT (p1 0).N 0),(3,pT (p1 1).N 0),(4,pT (p1 2).N 0),(5,.int .i64 0),(6,.int .i64 1),(7,pT (p4 6).N 0),(8,.int .i64 0),(19,.bool false)]) (fun p4=>?_) (fun p4 W4 T hF hK=>?_)
 ·iterate 2 refine okl ?_
  refine okc (fun W cx=>as_o cx.hb (unhide HQ _ _ _ c' _ _ c' (cx.G.2.2.1) (cx.G.2.2.1))) ?_
  iterate 3 refine okv ?_
  refine okn ?_
  refine okp ?_
  refine okv ?_
  exact ok_nil
 replace hS:=SymF.fc hS hF [0,1,2,1006] [⟨(p1 0).N,#[.slice (p2 2).A (p2 2).N (p2 2).C],26,true⟩,⟨(p1 1).N,#[.slice a' n' c'],26,true⟩,⟨(p1 2).N,#[.slice none 0 0],26,true⟩,⟨(p4 6).N,#[.slice (p4 2).A (p4 2).N (p4 2).C],26,true⟩]
 replace hG:GsAt (gM W3.heap.size (p4 2).A (p4 2).N (p4 2).C f2 :: _) W4:=⟨hF.fx 2,hF.gx⟩
 clear hF
 refine wq hS hG hK (fun p5=>[.v 27 (.int .i64 0),.v 28 (.bool true)]) (fun p5=>[(2,pT (p1 0).N 0),(3,pT (p1 1).N 0),(4,pT (p1 2).N 0),(5,.int .i64 0),(6,.int .i64 1),(7,pT (p4 6).N 0),(19,.bool false),(28,.bool true)]) (fun p5=>?_) (fun p5 W5 T hF hK=>?_)
 ·iterate 2 refine okv ?_
  exact ok_nil
 obtain ⟨hS,hG⟩:=SymF.fg hS hF
 clear hF
 refine wp_cond_true (hK.ew 28) ?_
 refine wq hS hG hK (fun p6=>[.l 30 (.agg #[.slice (p2 2).A (p2 2).N (p2 2).C]) 0 0,.l 31 (.agg #[.slice (p4 2).A (p4 2).N (p4 2).C]) 3 0,.c (some 32) (cV (.tuple #[.agg #[.slice (p2 2).A (p2 2).N (p2 2).C],.int .i64 0])),.v 29 (.tuple #[.agg #[.slice (p2 2).A (p2 2).N (p2 2).C],.int .i64 0]),.v 33 (.agg #[.slice (p2 2).A (p2 2).N (p2 2).C]),.v 34 (.int .i64 0),.n 9 #[.slice none 0 0] 26,.p 1006 0 [.slice (p2 2).A (p2 2).N (p2 2).C],.v 10 (.int .i64 0)]) (fun p6=>[(2,pT (p1 0).N 0),(3,pT (p1 1).N 0),(4,pT (p1 2).N 0),(5,.int .i64 0),(6,.int .i64 1),(9,pT (p6 6).N 0),(10,.int .i64 0),(19,.bool false),(28,.bool true)]) (fun p6=>?_) (fun p6 W6 T hF hK=>?_)
 ·iterate 2 refine okl ?_
  refine okc (fun W cx=>as_v (unhide HW _ _ _ (p2 2).C _ _ (p4 2).C (Mine.num cx.G.2.1) (Mine.num cx.G.1))) ?_
  iterate 3 refine okv ?_
  refine okn ?_
  refine okp ?_
  refine okv ?_
  exact ok_nil
 replace hS:=SymF.fc hS hF [0,1,2,1006] [⟨(p1 0).N,#[.slice (p2 2).A (p2 2).N (p2 2).C],26,true⟩,⟨(p1 1).N,#[.slice a' n' c'],26,true⟩,⟨(p1 2).N,#[.slice none 0 0],26,true⟩,⟨(p6 6).N,#[.slice (p2 2).A (p2 2).N (p2 2).C],26,true⟩]
 replace hG:=hF.gx
 clear hF
 refine wg hS hG hK (fun p7=>[.l 35 (.agg #[.slice (p2 2).A (p2 2).N (p2 2).C]) 3 0,.v 36 (.int .i64 1),.v 37 (.int .i64 0),.v 38 (.int .i64 0),.v 39 (.int .i64 1),.p 0 0 [.slice (p2 2).A (p2 2).N (p2 2).C],.v 6 (.int .i64 1)]) (fun p7=>[(2,pT (p1 0).N 0),(3,pT (p1 1).N 0),(4,pT (p1 2).N 0),(5,.int .i64 0),(6,.int .i64 1),(19,.bool false),(28,.bool true)]) (fun p7=>?_) (fun p7 W7 T hF hK=>?_)
 ·refine okl ?_
  iterate 4 refine okv ?_
  refine okp ?_
  refine okv ?_
  exact ok_nil
 replace hS:=SymF.fc hS hF [0,1,2] [⟨(p1 0).N,#[.slice (p2 2).A (p2 2).N (p2 2).C],26,true⟩,⟨(p1 1).N,#[.slice a' n' c'],26,true⟩,⟨(p1 2).N,#[.slice none 0 0],26,true⟩]
 replace hG:=hF.gx
 clear hF
 refine then_n ?_
 refine wq hS hG hK (fun p8=>[.l 41 (.agg #[.slice (p2 2).A (p2 2).N (p2 2).C]) 0 0,.l 42 (.agg #[.slice a' n' c']) 1 0,.c (some 43) (cV (.tuple #[.agg #[.slice (p2 2).A (p2 2).N (p2 2).C],.int .i64 0])),.v 40 (.tuple #[.agg #[.slice (p2 2).A (p2 2).N (p2 2).C],.int .i64 0]),.v 44 (.agg #[.slice (p2 2).A (p2 2).N (p2 2).C]),.v 45 (.int .i64 0),.p 0 0 [.slice (p2 2).A (p2 2).N (p2 2).C],.v 11 (.int .i64 0)]) (fun p8=>[(2,pT (p1 0).N 0),(4,pT (p1 2).N 0),(5,.int .i64 0),(6,.int .i64 1),(11,.int .i64 0),(19,.bool false),(28,.bool true)]) (fun p8=>?_) (fun p8 W8 T hF hK=>?_)
 ·iterate 2 refine okl ?_
  refine okc (fun W cx=>as_v (unhide H2 _ _ _ (p2 2).C _ _ c' (Mine.num cx.G.2.1) (cx.G.2.2.2.1))) ?_
  iterate 3 refine okv ?_
  refine okp ?_
  refine okv ?_
  exact ok_nil
 replace hS:=SymF.fc hS hF [0,2] [⟨(p1 0).N,#[.slice (p2 2).A (p2 2).N (p2 2).C],26,true⟩,⟨(p1 2).N,#[.slice none 0 0],26,true⟩]
 replace hG:=hF.gx
 clear hF
 refine wq hS hG hK (fun p9=>[.l 46 (.agg #[.slice (p2 2).A (p2 2).N (p2 2).C]) 0 0,.v 47 (.int .i64 1),.v 48 (.int .i64 0),.v 49 (.int .i64 1),.p 1 0 [.slice (p2 2).A (p2 2).N (p2 2).C],.v 5 (.int .i64 1)]) (fun p9=>[(2,pT (p1 0).N 0),(4,pT (p1 2).N 0),(5,.int .i64 1),(19,.bool false),(28,.bool true)]) (fun p9=>?_) (fun p9 W9 T hF hK=>?_)
 ·refine okl ?_
  iterate 3 refine okv ?_
  refine okp ?_
  refine okv ?_
  exact ok_nil
 replace hS:=SymF.fc hS hF [0,1] [⟨(p1 0).N,#[.slice (p2 2).A (p2 2).N (p2 2).C],26,true⟩,⟨(p1 2).N,#[.slice (p2 2).A (p2 2).N (p2 2).C],26,true⟩]
 replace hG:=hF.gx
 clear hF
 refine wp_ret ?_
 exact sym_end hS hK (.tuple #[.agg #[.slice (p2 2).A (p2 2).N (p2 2).C],.int .i64 1]) [(1,0,1)] [.slice (p2 2).A (p2 2).N (p2 2).C] (by kernel_rfl) (by kernel_rfl) ⟨⟨_,_,_,rfl,Mine.mono hG.2.1 z1⟩,hS.fr⟩
theorem wo_01 (w:World) (a:Option Addr) (n c m:Nat) (a':Option Addr) (n' c' f:Nat) (q f2:Nat) (v:Nat) (h:Num w a n m) (h':Num w a' n' f) (H1:Hid (∀ (W:World) (a:Option Addr) (n c:Nat) (a':Option Addr) (n' c':Nat),Num W a n m→Num W a' n' f→Calls Tryz.prog 74 #[.agg #[.slice a n c],.agg #[.slice a' n' c']] W fun en W'=>(∃ a n c,en = .returned (.tuple #[.agg #[.slice a n c],.int .i64 1])∧Mine W' W.heap.size a n c q)∧Below W.heap.size W W')) (HQ:Hid (∀ (W:World) (a:Option Addr) (n c:Nat) (a':Option Addr) (n' c':Nat),Num W a n f→Num W a' n' f→Calls Tryz.prog 25 #[.agg #[.slice a n c],.agg #[.slice a' n' c']] W fun en W'=>(∃ a n c,en = .returned (.tuple #[.agg #[.slice a n c],.int .i64 0])∧Mine W' W.heap.size a n c f2)∧Below W.heap.size W W')) (HW:Hid (∀ (W:World) (a:Option Addr) (n c:Nat) (a':Option Addr) (n' c':Nat),Num W a n q→Num W a' n' f2→Calls Tryz.prog 30 #[.agg #[.slice a n c],.agg #[.slice a' n' c']] W fun en W'=>en = .returned (.tuple #[.agg #[.slice a n c],.int .i64 0])∧Below W.heap.size W W')) (H2:Hid (∀ (W:World) (a:Option Addr) (n c:Nat) (a':Option Addr) (n' c':Nat),Num W a n q→Num W a' n' f→Calls Tryz.prog 74 #[.agg #[.slice a n c],.agg #[.slice a' n' c']] W fun en W'=>(∃ a n c,en = .returned (.tuple #[.agg #[.slice a n c],.int .i64 1])∧Mine W' W.heap.size a n c v)∧Below W.heap.size W W'))  :
  Calls Tryz.prog 30 #[.agg #[.slice a n c],.agg #[.slice a' n' c']] w fun en w'=>(∃ A N C,en = .returned (.tuple #[.agg #[.slice A N C],.int .i64 2])∧Mine w' w.heap.size A N C v)∧Below w.heap.size w w':=by
 refine calls_sym Tryz.func30 rfl (by kernel_rfl) fun T hK=>?_
 replace hK:Kn T _ [(0,.agg #[.slice a n c]),(1,.agg #[.slice a' n' c'])]:=hK
 have hS:=Fb.begin w
 have hG:GsAt [gN a n m,gN a' n' f] w:=⟨h,h',trivial⟩
 refine wq hS hG hK (fun p1=>[.n 2 #[.slice a n c] 26,.n 3 #[.slice a' n' c'] 26,.n 4 #[.slice none 0 0] 26,.v 5 (.int .i64 0)]) (fun p1=>[(2,pT (p1 0).N 0),(3,pT (p1 1).N 0),(4,pT (p1 2).N 0),(5,.int .i64 0)]) (fun p1=>?_) (fun p1 W1 T hF hK=>?_)
 ·iterate 3 refine okn ?_
  refine okv ?_
  exact ok_nil
 replace hS:=SymF.fc hS hF [1000,1001,1002] [⟨(p1 0).N,#[.slice a n c],26,true⟩,⟨(p1 1).N,#[.slice a' n' c'],26,true⟩,⟨(p1 2).N,#[.slice none 0 0],26,true⟩]
 replace hG:=hF.gx
 clear hF
 refine wq hS hG hK (fun p2=>[.l 13 (.agg #[.slice a n c]) 0 0,.l 14 (.agg #[.slice a' n' c']) 1 0,.c (some 15) (cG W1.heap.size q fun x9=>.tuple #[.agg #[x9],.int .i64 1]),.v 12 (.tuple #[.agg #[.slice (p2 2).A (p2 2).N (p2 2).C],.int .i64 1]),.v 16 (.agg #[.slice (p2 2).A (p2 2).N (p2 2).C]),.v 17 (.int .i64 1),.p 0 0 [.slice (p2 2).A (p2 2).N (p2 2).C],.v 6 (.int .i64 1)]) (fun p2=>[(2,pT (p1 0).N 0),(3,pT (p1 1).N 0),(4,pT (p1 2).N 0),(5,.int .i64 0),(6,.int .i64 1)]) (fun p2=>?_) (fun p2 W2 T hF hK=>?_)
 ·iterate 2 refine okl ?_
  refine okc (fun W cx=>as_g cx.hb (unhide H1 _ _ _ c _ _ c' (cx.G.1) (cx.G.2.1))) ?_
  iterate 3 refine okv ?_
  refine okp ?_
  refine okv ?_
  exact ok_nil
 replace hS:=SymF.fc hS hF [0,1,2] [⟨(p1 0).N,#[.slice (p2 2).A (p2 2).N (p2 2).C],26,true⟩,⟨(p1 1).N,#[.slice a' n' c'],26,true⟩,⟨(p1 2).N,#[.slice none 0 0],26,true⟩]
 replace hG:GsAt (gM W1.heap.size (p2 2).A (p2 2).N (p2 2).C q :: _) W2:=⟨hF.fx 2,hF.gx⟩
 clear hF
 refine wp_seq ?_
 refine wq hS hG hK (fun p3=>[.v 18 (.int .i64 1),.v 19 (.bool false)]) (fun p3=>[(2,pT (p1 0).N 0),(3,pT (p1 1).N 0),(4,pT (p1 2).N 0),(5,.int .i64 0),(6,.int .i64 1),(19,.bool false)]) (fun p3=>?_) (fun p3 W3 T hF hK=>?_)
 ·iterate 2 refine okv ?_
  exact ok_nil
 obtain ⟨hS,hG⟩:=SymF.fg hS hF
 clear hF
 refine wp_cond_false (hK.ew 19) (wp_skip ?_)
 refine then_n (wp_seq ?_)
 refine wq hS hG hK (fun p4=>[.l 22 (.agg #[.slice a' n' c']) 1 0,.l 23 (.agg #[.slice a' n' c']) 1 0,.c (some 24) (cO W3.heap.size f2),.v 21 (.tuple #[.agg #[.slice (p4 2).A (p4 2).N (p4 2).C],.int .i64 0]),.v 25 (.agg #[.slice (p4 2).A (p4 2).N (p4 2).C]),.v 26 (.int .i64 0),.n 7 #[.slice none 0 0] 26,.p 1006 0 [.slice (p4 2).A (p4 2).N (p4 2).C],.v 8 (.int .i64 0)]) (fun p4=>[(2,pT (p1 0).N 0),(3,pT (p1 1).N 0),(4,pT (p1 2).N 0),(5,.int .i64 0),(6,.int .i64 1),(7,pT (p4 6).N 0),(8,.int .i64 0),(19,.bool false)]) (fun p4=>?_) (fun p4 W4 T hF hK=>?_)
 ·iterate 2 refine okl ?_
  refine okc (fun W cx=>as_o cx.hb (unhide HQ _ _ _ c' _ _ c' (cx.G.2.2.1) (cx.G.2.2.1))) ?_
  iterate 3 refine okv ?_
  refine okn ?_
  refine okp ?_
  refine okv ?_
  exact ok_nil
 replace hS:=SymF.fc hS hF [0,1,2,1006] [⟨(p1 0).N,#[.slice (p2 2).A (p2 2).N (p2 2).C],26,true⟩,⟨(p1 1).N,#[.slice a' n' c'],26,true⟩,⟨(p1 2).N,#[.slice none 0 0],26,true⟩,⟨(p4 6).N,#[.slice (p4 2).A (p4 2).N (p4 2).C],26,true⟩]
 replace hG:GsAt (gM W3.heap.size (p4 2).A (p4 2).N (p4 2).C f2 :: _) W4:=⟨hF.fx 2,hF.gx⟩
 clear hF
 refine wq hS hG hK (fun p5=>[.v 27 (.int .i64 0),.v 28 (.bool true)]) (fun p5=>[(2,pT (p1 0).N 0),(3,pT (p1 1).N 0),(4,pT (p1 2).N 0),(5,.int .i64 0),(6,.int .i64 1),(7,pT (p4 6).N 0),(19,.bool false),(28,.bool true)]) (fun p5=>?_) (fun p5 W5 T hF hK=>?_)
 ·iterate 2 refine okv ?_
  exact ok_nil
 obtain ⟨hS,hG⟩:=SymF.fg hS hF
 clear hF
 refine wp_cond_true (hK.ew 28) ?_
 refine wq hS hG hK (fun p6=>[.l 30 (.agg #[.slice (p2 2).A (p2 2).N (p2 2).C]) 0 0,.l 31 (.agg #[.slice (p4 2).A (p4 2).N (p4 2).C]) 3 0,.c (some 32) (cV (.tuple #[.agg #[.slice (p2 2).A (p2 2).N (p2 2).C],.int .i64 0])),.v 29 (.tuple #[.agg #[.slice (p2 2).A (p2 2).N (p2 2).C],.int .i64 0]),.v 33 (.agg #[.slice (p2 2).A (p2 2).N (p2 2).C]),.v 34 (.int .i64 0),.n 9 #[.slice none 0 0] 26,.p 1006 0 [.slice (p2 2).A (p2 2).N (p2 2).C],.v 10 (.int .i64 0)]) (fun p6=>[(2,pT (p1 0).N 0),(3,pT (p1 1).N 0),(4,pT (p1 2).N 0),(5,.int .i64 0),(6,.int .i64 1),(9,pT (p6 6).N 0),(10,.int .i64 0),(19,.bool false),(28,.bool true)]) (fun p6=>?_) (fun p6 W6 T hF hK=>?_)
 ·iterate 2 refine okl ?_
  refine okc (fun W cx=>as_v (unhide HW _ _ _ (p2 2).C _ _ (p4 2).C (Mine.num cx.G.2.1) (Mine.num cx.G.1))) ?_
  iterate 3 refine okv ?_
  refine okn ?_
  refine okp ?_
  refine okv ?_
  exact ok_nil
 replace hS:=SymF.fc hS hF [0,1,2,1006] [⟨(p1 0).N,#[.slice (p2 2).A (p2 2).N (p2 2).C],26,true⟩,⟨(p1 1).N,#[.slice a' n' c'],26,true⟩,⟨(p1 2).N,#[.slice none 0 0],26,true⟩,⟨(p6 6).N,#[.slice (p2 2).A (p2 2).N (p2 2).C],26,true⟩]
 replace hG:=hF.gx
 clear hF
 refine wg hS hG hK (fun p7=>[.l 35 (.agg #[.slice (p2 2).A (p2 2).N (p2 2).C]) 3 0,.v 36 (.int .i64 1),.v 37 (.int .i64 0),.v 38 (.int .i64 0),.v 39 (.int .i64 1),.p 0 0 [.slice (p2 2).A (p2 2).N (p2 2).C],.v 6 (.int .i64 1)]) (fun p7=>[(2,pT (p1 0).N 0),(3,pT (p1 1).N 0),(4,pT (p1 2).N 0),(5,.int .i64 0),(6,.int .i64 1),(19,.bool false),(28,.bool true)]) (fun p7=>?_) (fun p7 W7 T hF hK=>?_)
 ·refine okl ?_
  iterate 4 refine okv ?_
  refine okp ?_
  refine okv ?_
  exact ok_nil
 replace hS:=SymF.fc hS hF [0,1,2] [⟨(p1 0).N,#[.slice (p2 2).A (p2 2).N (p2 2).C],26,true⟩,⟨(p1 1).N,#[.slice a' n' c'],26,true⟩,⟨(p1 2).N,#[.slice none 0 0],26,true⟩]
 replace hG:=hF.gx
 clear hF
 have z7:=hS.fr.size
 refine then_n ?_
 refine wq hS hG hK (fun p8=>[.l 41 (.agg #[.slice (p2 2).A (p2 2).N (p2 2).C]) 0 0,.l 42 (.agg #[.slice a' n' c']) 1 0,.c (some 43) (cG W7.heap.size v fun x9=>.tuple #[.agg #[x9],.int .i64 1]),.v 40 (.tuple #[.agg #[.slice (p8 2).A (p8 2).N (p8 2).C],.int .i64 1]),.v 44 (.agg #[.slice (p8 2).A (p8 2).N (p8 2).C]),.v 45 (.int .i64 1),.p 0 0 [.slice (p8 2).A (p8 2).N (p8 2).C],.v 11 (.int .i64 1)]) (fun p8=>[(2,pT (p1 0).N 0),(4,pT (p1 2).N 0),(5,.int .i64 0),(6,.int .i64 1),(11,.int .i64 1),(19,.bool false),(28,.bool true)]) (fun p8=>?_) (fun p8 W8 T hF hK=>?_)
 ·iterate 2 refine okl ?_
  refine okc (fun W cx=>as_g cx.hb (unhide H2 _ _ _ (p2 2).C _ _ c' (Mine.num cx.G.2.1) (cx.G.2.2.2.1))) ?_
  iterate 3 refine okv ?_
  refine okp ?_
  refine okv ?_
  exact ok_nil
 replace hS:=SymF.fc hS hF [0,2] [⟨(p1 0).N,#[.slice (p8 2).A (p8 2).N (p8 2).C],26,true⟩,⟨(p1 2).N,#[.slice none 0 0],26,true⟩]
 replace hG:GsAt (gM W7.heap.size (p8 2).A (p8 2).N (p8 2).C v :: _) W8:=⟨hF.fx 2,hF.gx⟩
 clear hF
 refine wq hS hG hK (fun p9=>[.l 46 (.agg #[.slice (p8 2).A (p8 2).N (p8 2).C]) 0 0,.v 47 (.int .i64 1),.v 48 (.int .i64 1),.v 49 (.int .i64 2),.p 1 0 [.slice (p8 2).A (p8 2).N (p8 2).C],.v 5 (.int .i64 2)]) (fun p9=>[(2,pT (p1 0).N 0),(4,pT (p1 2).N 0),(5,.int .i64 2),(19,.bool false),(28,.bool true)]) (fun p9=>?_) (fun p9 W9 T hF hK=>?_)
 ·refine okl ?_
  iterate 3 refine okv ?_
  refine okp ?_
  refine okv ?_
  exact ok_nil
 replace hS:=SymF.fc hS hF [0,1] [⟨(p1 0).N,#[.slice (p8 2).A (p8 2).N (p8 2).C],26,true⟩,⟨(p1 2).N,#[.slice (p8 2).A (p8 2).N (p8 2).C],26,true⟩]
 replace hG:=hF.gx
 clear hF
 refine wp_ret ?_
 exact sym_end hS hK (.tuple #[.agg #[.slice (p8 2).A (p8 2).N (p8 2).C],.int .i64 2]) [(1,0,1)] [.slice (p8 2).A (p8 2).N (p8 2).C] (by kernel_rfl) (by kernel_rfl) ⟨⟨_,_,_,rfl,Mine.mono hG.1 z7⟩,hS.fr⟩
theorem wo_10 (w:World) (a:Option Addr) (n c m:Nat) (a':Option Addr) (n' c' f:Nat) (q f2:Nat) (k u:Nat) (h:Num w a n m) (h':Num w a' n' f) (H1:Hid (∀ (W:World) (a:Option Addr) (n c:Nat) (a':Option Addr) (n' c':Nat),Num W a n m→Num W a' n' f→Calls Tryz.prog 74 #[.agg #[.slice a n c],.agg #[.slice a' n' c']] W fun en W'=>(∃ a n c,en = .returned (.tuple #[.agg #[.slice a n c],.int .i64 1])∧Mine W' W.heap.size a n c q)∧Below W.heap.size W W')) (HQ:Hid (∀ (W:World) (a:Option Addr) (n c:Nat) (a':Option Addr) (n' c':Nat),Num W a n f→Num W a' n' f→Calls Tryz.prog 25 #[.agg #[.slice a n c],.agg #[.slice a' n' c']] W fun en W'=>(∃ a n c,en = .returned (.tuple #[.agg #[.slice a n c],.int .i64 0])∧Mine W' W.heap.size a n c f2)∧Below W.heap.size W W')) (hk:k≤524288) (HW:Hid (∀ (W:World) (a:Option Addr) (n c:Nat) (a':Option Addr) (n' c':Nat),Num W a n q→Num W a' n' f2→Calls Tryz.prog 30 #[.agg #[.slice a n c],.agg #[.slice a' n' c']] W fun en W'=>(∃ a n c,en = .returned (.tuple #[.agg #[.slice a n c],.int .i64 (k:Int)])∧Mine W' W.heap.size a n c u)∧Below W.heap.size W W')) (H2:Hid (∀ (W:World) (a:Option Addr) (n c:Nat) (a':Option Addr) (n' c':Nat),Num W a n u→Num W a' n' f→Calls Tryz.prog 74 #[.agg #[.slice a n c],.agg #[.slice a' n' c']] W fun en W'=>en = .returned (.tuple #[.agg #[.slice a n c],.int .i64 0])∧Below W.heap.size W W'))  :
  Calls Tryz.prog 30 #[.agg #[.slice a n c],.agg #[.slice a' n' c']] w fun en w'=>(∃ A N C,en = .returned (.tuple #[.agg #[.slice A N C],.int .i64 ((1+2 * k+0:Nat):Int)])∧Mine w' w.heap.size A N C u)∧Below w.heap.size w w':=by
 refine calls_sym Tryz.func30 rfl (by kernel_rfl) fun T hK=>?_
 replace hK:Kn T _ [(0,.agg #[.slice a n c]),(1,.agg #[.slice a' n' c'])]:=hK
 have hS:=Fb.begin w
 have hG:GsAt [gN a n m,gN a' n' f] w:=⟨h,h',trivial⟩
 refine wq hS hG hK (fun p1=>[.n 2 #[.slice a n c] 26,.n 3 #[.slice a' n' c'] 26,.n 4 #[.slice none 0 0] 26,.v 5 (.int .i64 0)]) (fun p1=>[(2,pT (p1 0).N 0),(3,pT (p1 1).N 0),(4,pT (p1 2).N 0),(5,.int .i64 0)]) (fun p1=>?_) (fun p1 W1 T hF hK=>?_)
 ·iterate 3 refine okn ?_
  refine okv ?_
  exact ok_nil
 replace hS:=SymF.fc hS hF [1000,1001,1002] [⟨(p1 0).N,#[.slice a n c],26,true⟩,⟨(p1 1).N,#[.slice a' n' c'],26,true⟩,⟨(p1 2).N,#[.slice none 0 0],26,true⟩]
 replace hG:=hF.gx
 clear hF
 refine wq hS hG hK (fun p2=>[.l 13 (.agg #[.slice a n c]) 0 0,.l 14 (.agg #[.slice a' n' c']) 1 0,.c (some 15) (cG W1.heap.size q fun x9=>.tuple #[.agg #[x9],.int .i64 1]),.v 12 (.tuple #[.agg #[.slice (p2 2).A (p2 2).N (p2 2).C],.int .i64 1]),.v 16 (.agg #[.slice (p2 2).A (p2 2).N (p2 2).C]),.v 17 (.int .i64 1),.p 0 0 [.slice (p2 2).A (p2 2).N (p2 2).C],.v 6 (.int .i64 1)]) (fun p2=>[(2,pT (p1 0).N 0),(3,pT (p1 1).N 0),(4,pT (p1 2).N 0),(5,.int .i64 0),(6,.int .i64 1)]) (fun p2=>?_) (fun p2 W2 T hF hK=>?_)
 ·iterate 2 refine okl ?_
  refine okc (fun W cx=>as_g cx.hb (unhide H1 _ _ _ c _ _ c' (cx.G.1) (cx.G.2.1))) ?_
  iterate 3 refine okv ?_
  refine okp ?_
  refine okv ?_
  exact ok_nil
 replace hS:=SymF.fc hS hF [0,1,2] [⟨(p1 0).N,#[.slice (p2 2).A (p2 2).N (p2 2).C],26,true⟩,⟨(p1 1).N,#[.slice a' n' c'],26,true⟩,⟨(p1 2).N,#[.slice none 0 0],26,true⟩]
 replace hG:GsAt (gM W1.heap.size (p2 2).A (p2 2).N (p2 2).C q :: _) W2:=⟨hF.fx 2,hF.gx⟩
 clear hF
 refine wp_seq ?_
 refine wq hS hG hK (fun p3=>[.v 18 (.int .i64 1),.v 19 (.bool false)]) (fun p3=>[(2,pT (p1 0).N 0),(3,pT (p1 1).N 0),(4,pT (p1 2).N 0),(5,.int .i64 0),(6,.int .i64 1),(19,.bool false)]) (fun p3=>?_) (fun p3 W3 T hF hK=>?_)
 ·iterate 2 refine okv ?_
  exact ok_nil
 obtain ⟨hS,hG⟩:=SymF.fg hS hF
 clear hF
 refine wp_cond_false (hK.ew 19) (wp_skip ?_)
 refine then_n (wp_seq ?_)
 refine wq hS hG hK (fun p4=>[.l 22 (.agg #[.slice a' n' c']) 1 0,.l 23 (.agg #[.slice a' n' c']) 1 0,.c (some 24) (cO W3.heap.size f2),.v 21 (.tuple #[.agg #[.slice (p4 2).A (p4 2).N (p4 2).C],.int .i64 0]),.v 25 (.agg #[.slice (p4 2).A (p4 2).N (p4 2).C]),.v 26 (.int .i64 0),.n 7 #[.slice none 0 0] 26,.p 1006 0 [.slice (p4 2).A (p4 2).N (p4 2).C],.v 8 (.int .i64 0)]) (fun p4=>[(2,pT (p1 0).N 0),(3,pT (p1 1).N 0),(4,pT (p1 2).N 0),(5,.int .i64 0),(6,.int .i64 1),(7,pT (p4 6).N 0),(8,.int .i64 0),(19,.bool false)]) (fun p4=>?_) (fun p4 W4 T hF hK=>?_)
 ·iterate 2 refine okl ?_
  refine okc (fun W cx=>as_o cx.hb (unhide HQ _ _ _ c' _ _ c' (cx.G.2.2.1) (cx.G.2.2.1))) ?_
  iterate 3 refine okv ?_
  refine okn ?_
  refine okp ?_
  refine okv ?_
  exact ok_nil
 replace hS:=SymF.fc hS hF [0,1,2,1006] [⟨(p1 0).N,#[.slice (p2 2).A (p2 2).N (p2 2).C],26,true⟩,⟨(p1 1).N,#[.slice a' n' c'],26,true⟩,⟨(p1 2).N,#[.slice none 0 0],26,true⟩,⟨(p4 6).N,#[.slice (p4 2).A (p4 2).N (p4 2).C],26,true⟩]
 replace hG:GsAt (gM W3.heap.size (p4 2).A (p4 2).N (p4 2).C f2 :: _) W4:=⟨hF.fx 2,hF.gx⟩
 clear hF
 refine wq hS hG hK (fun p5=>[.v 27 (.int .i64 0),.v 28 (.bool true)]) (fun p5=>[(2,pT (p1 0).N 0),(3,pT (p1 1).N 0),(4,pT (p1 2).N 0),(5,.int .i64 0),(6,.int .i64 1),(7,pT (p4 6).N 0),(19,.bool false),(28,.bool true)]) (fun p5=>?_) (fun p5 W5 T hF hK=>?_)
 ·iterate 2 refine okv ?_
  exact ok_nil
 obtain ⟨hS,hG⟩:=SymF.fg hS hF
 clear hF
 have z5:=hS.fr.size
 refine wp_cond_true (hK.ew 28) ?_
 refine wq hS hG hK (fun p6=>[.l 30 (.agg #[.slice (p2 2).A (p2 2).N (p2 2).C]) 0 0,.l 31 (.agg #[.slice (p4 2).A (p4 2).N (p4 2).C]) 3 0,.c (some 32) (cG W5.heap.size u fun x9=>.tuple #[.agg #[x9],.int .i64 (k:Int)]),.v 29 (.tuple #[.agg #[.slice (p6 2).A (p6 2).N (p6 2).C],.int .i64 (k:Int)]),.v 33 (.agg #[.slice (p6 2).A (p6 2).N (p6 2).C]),.v 34 (.int .i64 (k:Int)),.n 9 #[.slice none 0 0] 26,.p 1006 0 [.slice (p6 2).A (p6 2).N (p6 2).C],.v 10 (.int .i64 (k:Int))]) (fun p6=>[(2,pT (p1 0).N 0),(3,pT (p1 1).N 0),(4,pT (p1 2).N 0),(5,.int .i64 0),(6,.int .i64 1),(9,pT (p6 6).N 0),(10,.int .i64 (k:Int)),(19,.bool false),(28,.bool true)]) (fun p6=>?_) (fun p6 W6 T hF hK=>?_)
 ·iterate 2 refine okl ?_
  refine okc (fun W cx=>as_g cx.hb (unhide HW _ _ _ (p2 2).C _ _ (p4 2).C (Mine.num cx.G.2.1) (Mine.num cx.G.1))) ?_
  iterate 3 refine okv ?_
  refine okn ?_
  refine okp ?_
  refine okv ?_
  exact ok_nil
 replace hS:=SymF.fc hS hF [0,1,2,1006] [⟨(p1 0).N,#[.slice (p2 2).A (p2 2).N (p2 2).C],26,true⟩,⟨(p1 1).N,#[.slice a' n' c'],26,true⟩,⟨(p1 2).N,#[.slice none 0 0],26,true⟩,⟨(p6 6).N,#[.slice (p6 2).A (p6 2).N (p6 2).C],26,true⟩]
 replace hG:GsAt (gM W5.heap.size (p6 2).A (p6 2).N (p6 2).C u :: _) W6:=⟨hF.fx 2,hF.gx⟩
 clear hF
 refine wg hS hG hK (fun p7=>[.l 35 (.agg #[.slice (p6 2).A (p6 2).N (p6 2).C]) 3 0,.v 36 (.int .i64 1),.v 37 (.int .i64 (k:Int)),.v 38 (.int .i64 (2 * (k:Int))),.v 39 (.int .i64 ((1+2 * k:Nat):Int)),.p 0 0 [.slice (p6 2).A (p6 2).N (p6 2).C],.v 6 (.int .i64 ((1+2 * k:Nat):Int))]) (fun p7=>[(2,pT (p1 0).N 0),(3,pT (p1 1).N 0),(4,pT (p1 2).N 0),(5,.int .i64 0),(6,.int .i64 ((1+2 * k:Nat):Int)),(19,.bool false),(28,.bool true)]) (fun p7=>?_) (fun p7 W7 T hF hK=>?_)
 ·refine okl ?_
  iterate 2 refine okv ?_
  refine okvi (wr64 (x:=2 * (k:Int)) (by omega) (by omega)) ?_
  refine okvi ((wr64 (x:=1+2 * (k:Int)) (by omega) (by omega)).trans (by omega)) ?_
  refine okp ?_
  refine okv ?_
  exact ok_nil
 replace hS:=SymF.fc hS hF [0,1,2] [⟨(p1 0).N,#[.slice (p6 2).A (p6 2).N (p6 2).C],26,true⟩,⟨(p1 1).N,#[.slice a' n' c'],26,true⟩,⟨(p1 2).N,#[.slice none 0 0],26,true⟩]
 replace hG:=hF.gx
 clear hF
 refine then_n ?_
 refine wq hS hG hK (fun p8=>[.l 41 (.agg #[.slice (p6 2).A (p6 2).N (p6 2).C]) 0 0,.l 42 (.agg #[.slice a' n' c']) 1 0,.c (some 43) (cV (.tuple #[.agg #[.slice (p6 2).A (p6 2).N (p6 2).C],.int .i64 0])),.v 40 (.tuple #[.agg #[.slice (p6 2).A (p6 2).N (p6 2).C],.int .i64 0]),.v 44 (.agg #[.slice (p6 2).A (p6 2).N (p6 2).C]),.v 45 (.int .i64 0),.p 0 0 [.slice (p6 2).A (p6 2).N (p6 2).C],.v 11 (.int .i64 0)]) (fun p8=>[(2,pT (p1 0).N 0),(4,pT (p1 2).N 0),(5,.int .i64 0),(6,.int .i64 ((1+2 * k:Nat):Int)),(11,.int .i64 0),(19,.bool false),(28,.bool true)]) (fun p8=>?_) (fun p8 W8 T hF hK=>?_)
 ·iterate 2 refine okl ?_
  refine okc (fun W cx=>as_v (unhide H2 _ _ _ (p6 2).C _ _ c' (Mine.num cx.G.1) (cx.G.2.2.2.2.1))) ?_
  iterate 3 refine okv ?_
  refine okp ?_
  refine okv ?_
  exact ok_nil
 replace hS:=SymF.fc hS hF [0,2] [⟨(p1 0).N,#[.slice (p6 2).A (p6 2).N (p6 2).C],26,true⟩,⟨(p1 2).N,#[.slice none 0 0],26,true⟩]
 replace hG:=hF.gx
 clear hF
 refine wq hS hG hK (fun p9=>[.l 46 (.agg #[.slice (p6 2).A (p6 2).N (p6 2).C]) 0 0,.v 47 (.int .i64 ((1+2 * k:Nat):Int)),.v 48 (.int .i64 0),.v 49 (.int .i64 ((1+2 * k+0:Nat):Int)),.p 1 0 [.slice (p6 2).A (p6 2).N (p6 2).C],.v 5 (.int .i64 ((1+2 * k+0:Nat):Int))]) (fun p9=>[(2,pT (p1 0).N 0),(4,pT (p1 2).N 0),(5,.int .i64 ((1+2 * k+0:Nat):Int)),(19,.bool false),(28,.bool true)]) (fun p9=>?_) (fun p9 W9 T hF hK=>?_)
 ·refine okl ?_
  iterate 2 refine okv ?_
  refine okvi ((wr64 (x:=((1+2 * k:Nat):Int)+0) (by omega) (by omega)).trans (by omega)) ?_
  refine okp ?_
  refine okv ?_
  exact ok_nil
 replace hS:=SymF.fc hS hF [0,1] [⟨(p1 0).N,#[.slice (p6 2).A (p6 2).N (p6 2).C],26,true⟩,⟨(p1 2).N,#[.slice (p6 2).A (p6 2).N (p6 2).C],26,true⟩]
 replace hG:=hF.gx
 clear hF
 refine wp_ret ?_
 exact sym_end hS hK (.tuple #[.agg #[.slice (p6 2).A (p6 2).N (p6 2).C],.int .i64 ((1+2 * k+0:Nat):Int)]) [(1,0,1)] [.slice (p6 2).A (p6 2).N (p6 2).C] (by kernel_rfl) (by kernel_rfl) ⟨⟨_,_,_,rfl,Mine.mono hG.1 z5⟩,hS.fr⟩
theorem wo_11 (w:World) (a:Option Addr) (n c m:Nat) (a':Option Addr) (n' c' f:Nat) (q f2:Nat) (k u:Nat) (v:Nat) (h:Num w a n m) (h':Num w a' n' f) (H1:Hid (∀ (W:World) (a:Option Addr) (n c:Nat) (a':Option Addr) (n' c':Nat),Num W a n m→Num W a' n' f→Calls Tryz.prog 74 #[.agg #[.slice a n c],.agg #[.slice a' n' c']] W fun en W'=>(∃ a n c,en = .returned (.tuple #[.agg #[.slice a n c],.int .i64 1])∧Mine W' W.heap.size a n c q)∧Below W.heap.size W W')) (HQ:Hid (∀ (W:World) (a:Option Addr) (n c:Nat) (a':Option Addr) (n' c':Nat),Num W a n f→Num W a' n' f→Calls Tryz.prog 25 #[.agg #[.slice a n c],.agg #[.slice a' n' c']] W fun en W'=>(∃ a n c,en = .returned (.tuple #[.agg #[.slice a n c],.int .i64 0])∧Mine W' W.heap.size a n c f2)∧Below W.heap.size W W')) (hk:k≤524288) (HW:Hid (∀ (W:World) (a:Option Addr) (n c:Nat) (a':Option Addr) (n' c':Nat),Num W a n q→Num W a' n' f2→Calls Tryz.prog 30 #[.agg #[.slice a n c],.agg #[.slice a' n' c']] W fun en W'=>(∃ a n c,en = .returned (.tuple #[.agg #[.slice a n c],.int .i64 (k:Int)])∧Mine W' W.heap.size a n c u)∧Below W.heap.size W W')) (H2:Hid (∀ (W:World) (a:Option Addr) (n c:Nat) (a':Option Addr) (n' c':Nat),Num W a n u→Num W a' n' f→Calls Tryz.prog 74 #[.agg #[.slice a n c],.agg #[.slice a' n' c']] W fun en W'=>(∃ a n c,en = .returned (.tuple #[.agg #[.slice a n c],.int .i64 1])∧Mine W' W.heap.size a n c v)∧Below W.heap.size W W'))  :
  Calls Tryz.prog 30 #[.agg #[.slice a n c],.agg #[.slice a' n' c']] w fun en w'=>(∃ A N C,en = .returned (.tuple #[.agg #[.slice A N C],.int .i64 ((1+2 * k+1:Nat):Int)])∧Mine w' w.heap.size A N C v)∧Below w.heap.size w w':=by
 refine calls_sym Tryz.func30 rfl (by kernel_rfl) fun T hK=>?_
 replace hK:Kn T _ [(0,.agg #[.slice a n c]),(1,.agg #[.slice a' n' c'])]:=hK
 have hS:=Fb.begin w
 have hG:GsAt [gN a n m,gN a' n' f] w:=⟨h,h',trivial⟩
 refine wq hS hG hK (fun p1=>[.n 2 #[.slice a n c] 26,.n 3 #[.slice a' n' c'] 26,.n 4 #[.slice none 0 0] 26,.v 5 (.int .i64 0)]) (fun p1=>[(2,pT (p1 0).N 0),(3,pT (p1 1).N 0),(4,pT (p1 2).N 0),(5,.int .i64 0)]) (fun p1=>?_) (fun p1 W1 T hF hK=>?_)
 ·iterate 3 refine okn ?_
  refine okv ?_
  exact ok_nil
 replace hS:=SymF.fc hS hF [1000,1001,1002] [⟨(p1 0).N,#[.slice a n c],26,true⟩,⟨(p1 1).N,#[.slice a' n' c'],26,true⟩,⟨(p1 2).N,#[.slice none 0 0],26,true⟩]
 replace hG:=hF.gx
 clear hF
 refine wq hS hG hK (fun p2=>[.l 13 (.agg #[.slice a n c]) 0 0,.l 14 (.agg #[.slice a' n' c']) 1 0,.c (some 15) (cG W1.heap.size q fun x9=>.tuple #[.agg #[x9],.int .i64 1]),.v 12 (.tuple #[.agg #[.slice (p2 2).A (p2 2).N (p2 2).C],.int .i64 1]),.v 16 (.agg #[.slice (p2 2).A (p2 2).N (p2 2).C]),.v 17 (.int .i64 1),.p 0 0 [.slice (p2 2).A (p2 2).N (p2 2).C],.v 6 (.int .i64 1)]) (fun p2=>[(2,pT (p1 0).N 0),(3,pT (p1 1).N 0),(4,pT (p1 2).N 0),(5,.int .i64 0),(6,.int .i64 1)]) (fun p2=>?_) (fun p2 W2 T hF hK=>?_)
 ·iterate 2 refine okl ?_
  refine okc (fun W cx=>as_g cx.hb (unhide H1 _ _ _ c _ _ c' (cx.G.1) (cx.G.2.1))) ?_
  iterate 3 refine okv ?_
  refine okp ?_
  refine okv ?_
  exact ok_nil
 replace hS:=SymF.fc hS hF [0,1,2] [⟨(p1 0).N,#[.slice (p2 2).A (p2 2).N (p2 2).C],26,true⟩,⟨(p1 1).N,#[.slice a' n' c'],26,true⟩,⟨(p1 2).N,#[.slice none 0 0],26,true⟩]
 replace hG:GsAt (gM W1.heap.size (p2 2).A (p2 2).N (p2 2).C q :: _) W2:=⟨hF.fx 2,hF.gx⟩
 clear hF
 refine wp_seq ?_
 refine wq hS hG hK (fun p3=>[.v 18 (.int .i64 1),.v 19 (.bool false)]) (fun p3=>[(2,pT (p1 0).N 0),(3,pT (p1 1).N 0),(4,pT (p1 2).N 0),(5,.int .i64 0),(6,.int .i64 1),(19,.bool false)]) (fun p3=>?_) (fun p3 W3 T hF hK=>?_)
 ·iterate 2 refine okv ?_
  exact ok_nil
 obtain ⟨hS,hG⟩:=SymF.fg hS hF
 clear hF
 refine wp_cond_false (hK.ew 19) (wp_skip ?_)
 refine then_n (wp_seq ?_)
 refine wq hS hG hK (fun p4=>[.l 22 (.agg #[.slice a' n' c']) 1 0,.l 23 (.agg #[.slice a' n' c']) 1 0,.c (some 24) (cO W3.heap.size f2),.v 21 (.tuple #[.agg #[.slice (p4 2).A (p4 2).N (p4 2).C],.int .i64 0]),.v 25 (.agg #[.slice (p4 2).A (p4 2).N (p4 2).C]),.v 26 (.int .i64 0),.n 7 #[.slice none 0 0] 26,.p 1006 0 [.slice (p4 2).A (p4 2).N (p4 2).C],.v 8 (.int .i64 0)]) (fun p4=>[(2,pT (p1 0).N 0),(3,pT (p1 1).N 0),(4,pT (p1 2).N 0),(5,.int .i64 0),(6,.int .i64 1),(7,pT (p4 6).N 0),(8,.int .i64 0),(19,.bool false)]) (fun p4=>?_) (fun p4 W4 T hF hK=>?_)
 ·iterate 2 refine okl ?_
  refine okc (fun W cx=>as_o cx.hb (unhide HQ _ _ _ c' _ _ c' (cx.G.2.2.1) (cx.G.2.2.1))) ?_
  iterate 3 refine okv ?_
  refine okn ?_
  refine okp ?_
  refine okv ?_
  exact ok_nil
 replace hS:=SymF.fc hS hF [0,1,2,1006] [⟨(p1 0).N,#[.slice (p2 2).A (p2 2).N (p2 2).C],26,true⟩,⟨(p1 1).N,#[.slice a' n' c'],26,true⟩,⟨(p1 2).N,#[.slice none 0 0],26,true⟩,⟨(p4 6).N,#[.slice (p4 2).A (p4 2).N (p4 2).C],26,true⟩]
 replace hG:GsAt (gM W3.heap.size (p4 2).A (p4 2).N (p4 2).C f2 :: _) W4:=⟨hF.fx 2,hF.gx⟩
 clear hF
 refine wq hS hG hK (fun p5=>[.v 27 (.int .i64 0),.v 28 (.bool true)]) (fun p5=>[(2,pT (p1 0).N 0),(3,pT (p1 1).N 0),(4,pT (p1 2).N 0),(5,.int .i64 0),(6,.int .i64 1),(7,pT (p4 6).N 0),(19,.bool false),(28,.bool true)]) (fun p5=>?_) (fun p5 W5 T hF hK=>?_)
 ·iterate 2 refine okv ?_
  exact ok_nil
 obtain ⟨hS,hG⟩:=SymF.fg hS hF
 clear hF
 refine wp_cond_true (hK.ew 28) ?_
 refine wq hS hG hK (fun p6=>[.l 30 (.agg #[.slice (p2 2).A (p2 2).N (p2 2).C]) 0 0,.l 31 (.agg #[.slice (p4 2).A (p4 2).N (p4 2).C]) 3 0,.c (some 32) (cG W5.heap.size u fun x9=>.tuple #[.agg #[x9],.int .i64 (k:Int)]),.v 29 (.tuple #[.agg #[.slice (p6 2).A (p6 2).N (p6 2).C],.int .i64 (k:Int)]),.v 33 (.agg #[.slice (p6 2).A (p6 2).N (p6 2).C]),.v 34 (.int .i64 (k:Int)),.n 9 #[.slice none 0 0] 26,.p 1006 0 [.slice (p6 2).A (p6 2).N (p6 2).C],.v 10 (.int .i64 (k:Int))]) (fun p6=>[(2,pT (p1 0).N 0),(3,pT (p1 1).N 0),(4,pT (p1 2).N 0),(5,.int .i64 0),(6,.int .i64 1),(9,pT (p6 6).N 0),(10,.int .i64 (k:Int)),(19,.bool false),(28,.bool true)]) (fun p6=>?_) (fun p6 W6 T hF hK=>?_)
 ·iterate 2 refine okl ?_
  refine okc (fun W cx=>as_g cx.hb (unhide HW _ _ _ (p2 2).C _ _ (p4 2).C (Mine.num cx.G.2.1) (Mine.num cx.G.1))) ?_
  iterate 3 refine okv ?_
  refine okn ?_
  refine okp ?_
  refine okv ?_
  exact ok_nil
 replace hS:=SymF.fc hS hF [0,1,2,1006] [⟨(p1 0).N,#[.slice (p2 2).A (p2 2).N (p2 2).C],26,true⟩,⟨(p1 1).N,#[.slice a' n' c'],26,true⟩,⟨(p1 2).N,#[.slice none 0 0],26,true⟩,⟨(p6 6).N,#[.slice (p6 2).A (p6 2).N (p6 2).C],26,true⟩]
 replace hG:GsAt (gM W5.heap.size (p6 2).A (p6 2).N (p6 2).C u :: _) W6:=⟨hF.fx 2,hF.gx⟩
 clear hF
 refine wg hS hG hK (fun p7=>[.l 35 (.agg #[.slice (p6 2).A (p6 2).N (p6 2).C]) 3 0,.v 36 (.int .i64 1),.v 37 (.int .i64 (k:Int)),.v 38 (.int .i64 (2 * (k:Int))),.v 39 (.int .i64 ((1+2 * k:Nat):Int)),.p 0 0 [.slice (p6 2).A (p6 2).N (p6 2).C],.v 6 (.int .i64 ((1+2 * k:Nat):Int))]) (fun p7=>[(2,pT (p1 0).N 0),(3,pT (p1 1).N 0),(4,pT (p1 2).N 0),(5,.int .i64 0),(6,.int .i64 ((1+2 * k:Nat):Int)),(19,.bool false),(28,.bool true)]) (fun p7=>?_) (fun p7 W7 T hF hK=>?_)
 ·refine okl ?_
  iterate 2 refine okv ?_
  refine okvi (wr64 (x:=2 * (k:Int)) (by omega) (by omega)) ?_
  refine okvi ((wr64 (x:=1+2 * (k:Int)) (by omega) (by omega)).trans (by omega)) ?_
  refine okp ?_
  refine okv ?_
  exact ok_nil
 replace hS:=SymF.fc hS hF [0,1,2] [⟨(p1 0).N,#[.slice (p6 2).A (p6 2).N (p6 2).C],26,true⟩,⟨(p1 1).N,#[.slice a' n' c'],26,true⟩,⟨(p1 2).N,#[.slice none 0 0],26,true⟩]
 replace hG:=hF.gx
 clear hF
 have z7:=hS.fr.size
 refine then_n ?_
 refine wq hS hG hK (fun p8=>[.l 41 (.agg #[.slice (p6 2).A (p6 2).N (p6 2).C]) 0 0,.l 42 (.agg #[.slice a' n' c']) 1 0,.c (some 43) (cG W7.heap.size v fun x9=>.tuple #[.agg #[x9],.int .i64 1]),.v 40 (.tuple #[.agg #[.slice (p8 2).A (p8 2).N (p8 2).C],.int .i64 1]),.v 44 (.agg #[.slice (p8 2).A (p8 2).N (p8 2).C]),.v 45 (.int .i64 1),.p 0 0 [.slice (p8 2).A (p8 2).N (p8 2).C],.v 11 (.int .i64 1)]) (fun p8=>[(2,pT (p1 0).N 0),(4,pT (p1 2).N 0),(5,.int .i64 0),(6,.int .i64 ((1+2 * k:Nat):Int)),(11,.int .i64 1),(19,.bool false),(28,.bool true)]) (fun p8=>?_) (fun p8 W8 T hF hK=>?_)
 ·iterate 2 refine okl ?_
  refine okc (fun W cx=>as_g cx.hb (unhide H2 _ _ _ (p6 2).C _ _ c' (Mine.num cx.G.1) (cx.G.2.2.2.2.1))) ?_
  iterate 3 refine okv ?_
  refine okp ?_
  refine okv ?_
  exact ok_nil
 replace hS:=SymF.fc hS hF [0,2] [⟨(p1 0).N,#[.slice (p8 2).A (p8 2).N (p8 2).C],26,true⟩,⟨(p1 2).N,#[.slice none 0 0],26,true⟩]
 replace hG:GsAt (gM W7.heap.size (p8 2).A (p8 2).N (p8 2).C v :: _) W8:=⟨hF.fx 2,hF.gx⟩
 clear hF
 refine wq hS hG hK (fun p9=>[.l 46 (.agg #[.slice (p8 2).A (p8 2).N (p8 2).C]) 0 0,.v 47 (.int .i64 ((1+2 * k:Nat):Int)),.v 48 (.int .i64 1),.v 49 (.int .i64 ((1+2 * k+1:Nat):Int)),.p 1 0 [.slice (p8 2).A (p8 2).N (p8 2).C],.v 5 (.int .i64 ((1+2 * k+1:Nat):Int))]) (fun p9=>[(2,pT (p1 0).N 0),(4,pT (p1 2).N 0),(5,.int .i64 ((1+2 * k+1:Nat):Int)),(19,.bool false),(28,.bool true)]) (fun p9=>?_) (fun p9 W9 T hF hK=>?_)
 ·refine okl ?_
  iterate 2 refine okv ?_
  refine okvi ((wr64 (x:=((1+2 * k:Nat):Int)+1) (by omega) (by omega)).trans (by omega)) ?_
  refine okp ?_
  refine okv ?_
  exact ok_nil
 replace hS:=SymF.fc hS hF [0,1] [⟨(p1 0).N,#[.slice (p8 2).A (p8 2).N (p8 2).C],26,true⟩,⟨(p1 2).N,#[.slice (p8 2).A (p8 2).N (p8 2).C],26,true⟩]
 replace hG:=hF.gx
 clear hF
 refine wp_ret ?_
 exact sym_end hS hK (.tuple #[.agg #[.slice (p8 2).A (p8 2).N (p8 2).C],.int .i64 ((1+2 * k+1:Nat):Int)]) [(1,0,1)] [.slice (p8 2).A (p8 2).N (p8 2).C] (by kernel_rfl) (by kernel_rfl) ⟨⟨_,_,_,rfl,Mine.mono hG.1 z7⟩,hS.fr⟩
theorem dnum_is (w:World) (g:Bool) (s:ByteArray) (x:Int) (m:Nat) (HP:Hid (∀ W:World,Calls Tryz.prog 66 #[.string s] W fun en W'=>(∃ a n c,en = .returned (.tuple #[.agg #[.slice a n c],.int .i64 0,.int .i64 0])∧Mine W' W.heap.size a n c m)∧Below W.heap.size W W')) :
  Calls Tryz.prog 26 #[.agg #[.bool g,.string s,.int .i64 x]] w fun en w'=>(∃ a n c,en = .returned (.agg #[.slice a n c])∧Mine w' w.heap.size a n c m)∧Below w.heap.size w w':=by
 refine calls_sym Tryz.func26 rfl (by kernel_rfl) fun T hK=>?_
 replace hK:Kn T _ [(0,.agg #[.bool g,.string s,.int .i64 x])]:=hK
 have hS:=Fb.begin w
 have hG:GsAt [] w:=trivial
 refine wq hS hG hK (fun p1=>[.n 1 #[.bool g,.string s,.int .i64 x] 23,.n 2 #[.slice none 0 0] 26]) (fun p1=>[(1,pT (p1 0).N 0),(2,pT (p1 1).N 0)]) (fun p1=>?_) (fun p1 W1 T hF hK=>?_)
 ·iterate 2 refine okn ?_
  exact ok_nil
 replace hS:=SymF.fc hS hF [1000,1001] [⟨(p1 0).N,#[.bool g,.string s,.int .i64 x],23,true⟩,⟨(p1 1).N,#[.slice none 0 0],26,true⟩]
 replace hG:=hF.gx
 clear hF
 have z1:=hS.fr.size
 refine wq hS hG hK (fun p2=>[.v 7 (pT (p1 0).N 1),.l 8 (.string s) 0 1,.c (some 9) (cG W1.heap.size m fun x9=>.tuple #[.agg #[x9],.int .i64 0,.int .i64 0]),.v 6 (.tuple #[.agg #[.slice (p2 2).A (p2 2).N (p2 2).C],.int .i64 0,.int .i64 0]),.v 10 (.agg #[.slice (p2 2).A (p2 2).N (p2 2).C]),.v 11 (.int .i64 0),.v 12 (.int .i64 0),.n 3 #[.slice none 0 0] 26,.p 1007 0 [.slice (p2 2).A (p2 2).N (p2 2).C],.v 4 (.int .i64 0),.v 5 (.int .i64 0)]) (fun p2=>[(2,pT (p1 1).N 0),(3,pT (p2 7).N 0)]) (fun p2=>?_) (fun p2 W2 T hF hK=>?_)
 ·refine okv ?_
  refine okl ?_
  refine okc (fun W cx=>as_g cx.hb (unhide HP _)) ?_
  iterate 4 refine okv ?_
  refine okn ?_
  refine okp ?_
  iterate 2 refine okv ?_
  exact ok_nil
 replace hS:=SymF.fc hS hF [1,1007] [⟨(p1 1).N,#[.slice none 0 0],26,true⟩,⟨(p2 7).N,#[.slice (p2 2).A (p2 2).N (p2 2).C],26,true⟩]
 replace hG:GsAt (gM W1.heap.size (p2 2).A (p2 2).N (p2 2).C m :: _) W2:=⟨hF.fx 2,hF.gx⟩
 clear hF
 refine wq hS hG hK (fun p3=>[.l 13 (.agg #[.slice (p2 2).A (p2 2).N (p2 2).C]) 1 0,.p 0 0 [.slice (p2 2).A (p2 2).N (p2 2).C]]) (fun p3=>[(2,pT (p1 1).N 0)]) (fun p3=>?_) (fun p3 W3 T hF hK=>?_)
 ·refine okl ?_
  refine okp ?_
  exact ok_nil
 replace hS:=SymF.fc hS hF [0] [⟨(p1 1).N,#[.slice (p2 2).A (p2 2).N (p2 2).C],26,true⟩]
 replace hG:=hF.gx
 clear hF
 refine wp_ret ?_
 exact sym_end hS hK (.agg #[.slice (p2 2).A (p2 2).N (p2 2).C]) [(0,0,1)] [.slice (p2 2).A (p2 2).N (p2 2).C] (by kernel_rfl) (by kernel_rfl) ⟨⟨_,_,_,rfl,Mine.mono hG.1 z1⟩,hS.fr⟩
theorem whole_s_many (w:World) (g:Bool) (a:Option Addr) (n c m:Nat) (x:Int) (k:Nat) (h:Num w a n m) (HW:Hid (∀ (W:World) (a:Option Addr) (n c:Nat) (a':Option Addr) (n' c':Nat),Num W a n m→Num W a' n' 10→Calls Tryz.prog 30 #[.agg #[.slice a n c],.agg #[.slice a' n' c']] W fun en W'=>en = .returned (.tuple #[.agg #[.slice a n c],.int .i64 0])∧Below W.heap.size W W')) (HB:Hid (∀ (W:World) (a:Option Addr) (n c:Nat),Num W a n m→Calls Tryz.prog 78 #[.agg #[.slice a n c]] W fun en W'=>en = .returned (.tuple #[.int .i64 (k:Int),.int .i64 0])∧Below W.heap.size W W')) (hk:218454 < k)  :
  Calls Tryz.prog 33 #[.bool g,.agg #[.slice a n c],.int .i64 x] w fun en w'=>en = .returned (.tuple #[.agg #[.bool false,.string ⟨#[]⟩,.int .i64 0],.int .i64 4])∧Below w.heap.size w w':=by
 refine calls_sym Tryz.func33 rfl (by kernel_rfl) fun T hK=>?_
 replace hK:Kn T _ [(0,.bool g),(1,.agg #[.slice a n c]),(2,.int .i64 x)]:=hK
 have hS:=Fb.begin w
 have hG:GsAt [gN a n m] w:=⟨h,trivial⟩
 refine wq hS hG hK (fun p1=>[.n 4 #[.slice a n c] 26,.n 6 #[.bool false,.string ⟨#[]⟩,.int .i64 0] 23,.v 7 (.int .i64 0)]) (fun p1=>[(0,.bool g),(2,.int .i64 x),(4,pT (p1 0).N 0),(6,pT (p1 1).N 0),(7,.int .i64 0)]) (fun p1=>?_) (fun p1 W1 T hF hK=>?_)
 ·iterate 2 refine okn ?_
  refine okv ?_
  exact ok_nil
 replace hS:=SymF.fc hS hF [1000,1001] [⟨(p1 0).N,#[.slice a n c],26,true⟩,⟨(p1 1).N,#[.bool false,.string ⟨#[]⟩,.int .i64 0],23,true⟩]
 replace hG:=hF.gx
 clear hF
 refine wq hS hG hK (fun p2=>[.l 14 (.agg #[.slice a n c]) 0 0,.c (some 15) (cN W1.heap.size 10),.c (some 16) (cV (.tuple #[.agg #[.slice a n c],.int .i64 0])),.v 13 (.tuple #[.agg #[.slice a n c],.int .i64 0]),.v 17 (.agg #[.slice a n c]),.v 18 (.int .i64 0),.p 0 0 [.slice a n c],.v 8 (.int .i64 0)]) (fun p2=>[(0,.bool g),(2,.int .i64 x),(4,pT (p1 0).N 0),(6,pT (p1 1).N 0),(7,.int .i64 0),(8,.int .i64 0)]) (fun p2=>?_) (fun p2 W2 T hF hK=>?_)
 ·refine okl ?_
  refine okc (fun W cx=>as_n cx.hb (of_any 10 _ (by decide))) ?_
  refine okc (fun W cx=>as_v (unhide HW _ _ _ c _ _ (p2 1).C (cx.G.1) (Mine.num (cx.F 1 (by kernel_rfl))))) ?_
  iterate 3 refine okv ?_
  refine okp ?_
  refine okv ?_
  exact ok_nil
 replace hS:=SymF.fd hS hF
 replace hG:GsAt (gM W1.heap.size (p2 1).A (p2 1).N (p2 1).C 10 :: _) W2:=⟨hF.fx 1,hF.gx⟩
 clear hF
 refine wp_seq ?_
 refine wq hS hG hK (fun p3=>[.l 20 (.agg #[.slice a n c]) 0 0,.c (some 21) (cV (.tuple #[.int .i64 (k:Int),.int .i64 0])),.v 19 (.tuple #[.int .i64 (k:Int),.int .i64 0]),.v 22 (.int .i64 (k:Int)),.v 23 (.int .i64 0),.v 9 (.int .i64 (k:Int)),.v 10 (.int .i64 0)]) (fun p3=>[(0,.bool g),(2,.int .i64 x),(4,pT (p1 0).N 0),(6,pT (p1 1).N 0),(7,.int .i64 0),(8,.int .i64 0),(9,.int .i64 (k:Int)),(10,.int .i64 0)]) (fun p3=>?_) (fun p3 W3 T hF hK=>?_)
 ·refine okl ?_
  refine okc (fun W cx=>as_v (unhide HB _ _ _ c (cx.G.2.1))) ?_
  iterate 5 refine okv ?_
  exact ok_nil
 obtain ⟨hS,hG⟩:=SymF.fg hS hF
 clear hF
 refine wq hS hG hK (fun p4=>[.v 24 (.int .i64 0),.v 25 (.bool false),.v 26 (.bool false),.v 27 (.int .i64 (k:Int)),.v 28 (.bool true),.v 29 (.bool true)]) (fun p4=>[(0,.bool g),(2,.int .i64 x),(4,pT (p1 0).N 0),(6,pT (p1 1).N 0),(7,.int .i64 0),(8,.int .i64 0),(29,.bool true)]) (fun p4=>?_) (fun p4 W4 T hF hK=>?_)
 ·iterate 4 refine okv ?_
  refine okvb (decide_eq_true (show (k:Int) > 218454 by omega)) ?_
  refine okv ?_
  exact ok_nil
 obtain ⟨hS,hG⟩:=SymF.fg hS hF
 clear hF
 refine wp_cond_true (hK.ew 29) ?_
 refine wq hS hG hK (fun p5=>[.v 30 (.agg #[.bool false,.string ⟨#[]⟩,.int .i64 0]),.p 1 0 [.bool false,.string ⟨#[]⟩,.int .i64 0],.v 7 (.int .i64 4)]) (fun p5=>[(0,.bool g),(2,.int .i64 x),(4,pT (p1 0).N 0),(6,pT (p1 1).N 0),(7,.int .i64 4),(8,.int .i64 0),(29,.bool true)]) (fun p5=>?_) (fun p5 W5 T hF hK=>?_)
 ·refine okv ?_
  refine okp ?_
  refine okv ?_
  exact ok_nil
 obtain ⟨hS,hG⟩:=SymF.fg hS hF
 clear hF
 refine wp_ret ?_
 refine then_r ?_
 exact sym_end hS hK (.tuple #[.agg #[.bool false,.string ⟨#[]⟩,.int .i64 0],.int .i64 4]) [(1,0,3)] [.bool false,.string ⟨#[]⟩,.int .i64 0] (by kernel_rfl) (by kernel_rfl) ⟨rfl,hS.fr⟩
theorem whole_s_ok (w:World) (g:Bool) (a:Option Addr) (n c m:Nat) (x:Int) (k:Nat) (t:ByteArray) (y:Int) (g3:Bool) (s3:ByteArray) (x3 e3:Int) (h:Num w a n m) (HW:Hid (∀ (W:World) (a:Option Addr) (n c:Nat) (a':Option Addr) (n' c':Nat),Num W a n m→Num W a' n' 10→Calls Tryz.prog 30 #[.agg #[.slice a n c],.agg #[.slice a' n' c']] W fun en W'=>en = .returned (.tuple #[.agg #[.slice a n c],.int .i64 0])∧Below W.heap.size W W')) (HB:Hid (∀ (W:World) (a:Option Addr) (n c:Nat),Num W a n m→Calls Tryz.prog 78 #[.agg #[.slice a n c]] W fun en W'=>en = .returned (.tuple #[.int .i64 (k:Int),.int .i64 0])∧Below W.heap.size W W')) (hk:k≤218454) (HT:Hid (∀ (W:World) (a:Option Addr) (n c:Nat),Num W a n m→Calls Tryz.prog 79 #[.agg #[.slice a n c]] W fun en W'=>en = .returned (.tuple #[.string t,.int .i64 0])∧Below W.heap.size W W')) (hy:x+0 = y) (hy0:-1099511627776≤y) (hy1:y≤1099511627776) (HM:Hid (∀ W:World,Calls Tryz.prog 42 #[.bool g,.string t,.int .i64 y] W fun e W'=>e = .returned (.tuple #[.agg #[.bool g3,.string s3,.int .i64 x3],.int .i64 e3])∧Below W.heap.size W W')) :
  Calls Tryz.prog 33 #[.bool g,.agg #[.slice a n c],.int .i64 x] w fun en w'=>en = .returned (.tuple #[.agg #[.bool g3,.string s3,.int .i64 x3],.int .i64 e3])∧Below w.heap.size w w':=by
 refine calls_sym Tryz.func33 rfl (by kernel_rfl) fun T hK=>?_
 replace hK:Kn T _ [(0,.bool g),(1,.agg #[.slice a n c]),(2,.int .i64 x)]:=hK
 have hS:=Fb.begin w
 have hG:GsAt [gN a n m] w:=⟨h,trivial⟩
 refine wq hS hG hK (fun p1=>[.n 4 #[.slice a n c] 26,.n 6 #[.bool false,.string ⟨#[]⟩,.int .i64 0] 23,.v 7 (.int .i64 0)]) (fun p1=>[(0,.bool g),(2,.int .i64 x),(4,pT (p1 0).N 0),(6,pT (p1 1).N 0),(7,.int .i64 0)]) (fun p1=>?_) (fun p1 W1 T hF hK=>?_)
 ·iterate 2 refine okn ?_
  refine okv ?_
  exact ok_nil
 replace hS:=SymF.fc hS hF [1000,1001] [⟨(p1 0).N,#[.slice a n c],26,true⟩,⟨(p1 1).N,#[.bool false,.string ⟨#[]⟩,.int .i64 0],23,true⟩]
 replace hG:=hF.gx
 clear hF
 refine wq hS hG hK (fun p2=>[.l 14 (.agg #[.slice a n c]) 0 0,.c (some 15) (cN W1.heap.size 10),.c (some 16) (cV (.tuple #[.agg #[.slice a n c],.int .i64 0])),.v 13 (.tuple #[.agg #[.slice a n c],.int .i64 0]),.v 17 (.agg #[.slice a n c]),.v 18 (.int .i64 0),.p 0 0 [.slice a n c],.v 8 (.int .i64 0)]) (fun p2=>[(0,.bool g),(2,.int .i64 x),(4,pT (p1 0).N 0),(6,pT (p1 1).N 0),(7,.int .i64 0),(8,.int .i64 0)]) (fun p2=>?_) (fun p2 W2 T hF hK=>?_)
 ·refine okl ?_
  refine okc (fun W cx=>as_n cx.hb (of_any 10 _ (by decide))) ?_
  refine okc (fun W cx=>as_v (unhide HW _ _ _ c _ _ (p2 1).C (cx.G.1) (Mine.num (cx.F 1 (by kernel_rfl))))) ?_
  iterate 3 refine okv ?_
  refine okp ?_
  refine okv ?_
  exact ok_nil
 replace hS:=SymF.fd hS hF
 replace hG:GsAt (gM W1.heap.size (p2 1).A (p2 1).N (p2 1).C 10 :: _) W2:=⟨hF.fx 1,hF.gx⟩
 clear hF
 refine wp_seq ?_
 refine wq hS hG hK (fun p3=>[.l 20 (.agg #[.slice a n c]) 0 0,.c (some 21) (cV (.tuple #[.int .i64 (k:Int),.int .i64 0])),.v 19 (.tuple #[.int .i64 (k:Int),.int .i64 0]),.v 22 (.int .i64 (k:Int)),.v 23 (.int .i64 0),.v 9 (.int .i64 (k:Int)),.v 10 (.int .i64 0)]) (fun p3=>[(0,.bool g),(2,.int .i64 x),(4,pT (p1 0).N 0),(6,pT (p1 1).N 0),(7,.int .i64 0),(8,.int .i64 0),(9,.int .i64 (k:Int)),(10,.int .i64 0)]) (fun p3=>?_) (fun p3 W3 T hF hK=>?_)
 ·refine okl ?_
  refine okc (fun W cx=>as_v (unhide HB _ _ _ c (cx.G.2.1))) ?_
  iterate 5 refine okv ?_
  exact ok_nil
 obtain ⟨hS,hG⟩:=SymF.fg hS hF
 clear hF
 refine wq hS hG hK (fun p4=>[.v 24 (.int .i64 0),.v 25 (.bool false),.v 26 (.bool false),.v 27 (.int .i64 (k:Int)),.v 28 (.bool false),.v 29 (.bool false)]) (fun p4=>[(0,.bool g),(2,.int .i64 x),(4,pT (p1 0).N 0),(6,pT (p1 1).N 0),(7,.int .i64 0),(8,.int .i64 0),(29,.bool false)]) (fun p4=>?_) (fun p4 W4 T hF hK=>?_)
 ·iterate 4 refine okv ?_
  refine okvb (decide_eq_false (show ¬ (k:Int) > 218454 by omega)) ?_
  refine okv ?_
  exact ok_nil
 obtain ⟨hS,hG⟩:=SymF.fg hS hF
 clear hF
 refine wp_cond_false (hK.ew 29) (wp_skip (then_n ?_))
 refine wq hS hG hK (fun p5=>[.l 32 (.agg #[.slice a n c]) 0 0,.c (some 33) (cV (.tuple #[.string t,.int .i64 0])),.v 31 (.tuple #[.string t,.int .i64 0]),.v 34 (.string t),.v 35 (.int .i64 0),.v 11 (.string t),.v 12 (.int .i64 0)]) (fun p5=>[(0,.bool g),(2,.int .i64 x),(6,pT (p1 1).N 0),(7,.int .i64 0),(8,.int .i64 0),(11,.string t),(12,.int .i64 0),(29,.bool false)]) (fun p5=>?_) (fun p5 W5 T hF hK=>?_)
 ·refine okl ?_
  refine okc (fun W cx=>as_v (unhide HT _ _ _ c (cx.G.2.1))) ?_
  iterate 5 refine okv ?_
  exact ok_nil
 replace hS:=SymF.fc hS hF [1] [⟨(p1 1).N,#[.bool false,.string ⟨#[]⟩,.int .i64 0],23,true⟩]
 replace hG:=hF.gx
 clear hF
 refine wp_seq ?_
 refine wq hS hG hK (fun p6=>[.v 36 (.int .i64 0),.v 37 (.bool false)]) (fun p6=>[(0,.bool g),(2,.int .i64 x),(6,pT (p1 1).N 0),(7,.int .i64 0),(8,.int .i64 0),(11,.string t),(12,.int .i64 0),(29,.bool false),(37,.bool false)]) (fun p6=>?_) (fun p6 W6 T hF hK=>?_)
 ·iterate 2 refine okv ?_
  exact ok_nil
 obtain ⟨hS,hG⟩:=SymF.fg hS hF
 clear hF
 refine wp_cond_false (hK.ew 37) (wp_skip (then_n ?_))
 refine wq hS hG hK (fun p7=>[.v 40 (.bool g),.v 41 (.string t),.v 42 (.int .i64 x),.v 43 (.int .i64 0),.v 44 (.int .i64 y),.c (some 45) (cV (.tuple #[.agg #[.bool g3,.string s3,.int .i64 x3],.int .i64 e3])),.v 46 (.agg #[.bool g3,.string s3,.int .i64 x3]),.v 47 (.int .i64 e3),.p 0 0 [.bool g3,.string s3,.int .i64 x3],.v 7 (.int .i64 e3)]) (fun p7=>[(6,pT (p1 1).N 0),(7,.int .i64 e3),(12,.int .i64 0),(29,.bool false),(37,.bool false)]) (fun p7=>?_) (fun p7 W7 T hF hK=>?_)
 ·iterate 4 refine okv ?_
  refine okvi ((wr64 (x:=x+0) (by omega) (by omega)).trans hy) ?_
  refine okc (fun W cx=>as_v (unhide HM _)) ?_
  iterate 2 refine okv ?_
  refine okp ?_
  refine okv ?_
  exact ok_nil
 replace hS:=SymF.fc hS hF [0] [⟨(p1 1).N,#[.bool g3,.string s3,.int .i64 x3],23,true⟩]
 replace hG:=hF.gx
 clear hF
 refine wp_ret ?_
 exact sym_end hS hK (.tuple #[.agg #[.bool g3,.string s3,.int .i64 x3],.int .i64 e3]) [(0,0,3)] [.bool g3,.string s3,.int .i64 x3] (by kernel_rfl) (by kernel_rfl) ⟨rfl,hS.fr⟩
theorem whole_g_many (w:World) (g:Bool) (a:Option Addr) (n c m:Nat) (x:Int) (k:Nat) (z u:Nat) (h:Num w a n m) (HW:Hid (∀ (W:World) (a:Option Addr) (n c:Nat) (a':Option Addr) (n' c':Nat),Num W a n m→Num W a' n' 10→Calls Tryz.prog 30 #[.agg #[.slice a n c],.agg #[.slice a' n' c']] W fun en W'=>(∃ a n c,en = .returned (.tuple #[.agg #[.slice a n c],.int .i64 (z:Int)])∧Mine W' W.heap.size a n c u)∧Below W.heap.size W W')) (HB:Hid (∀ (W:World) (a:Option Addr) (n c:Nat),Num W a n u→Calls Tryz.prog 78 #[.agg #[.slice a n c]] W fun en W'=>en = .returned (.tuple #[.int .i64 (k:Int),.int .i64 0])∧Below W.heap.size W W')) (hk:218454 < k)  :
  Calls Tryz.prog 33 #[.bool g,.agg #[.slice a n c],.int .i64 x] w fun en w'=>en = .returned (.tuple #[.agg #[.bool false,.string ⟨#[]⟩,.int .i64 0],.int .i64 4])∧Below w.heap.size w w':=by
 refine calls_sym Tryz.func33 rfl (by kernel_rfl) fun T hK=>?_
 replace hK:Kn T _ [(0,.bool g),(1,.agg #[.slice a n c]),(2,.int .i64 x)]:=hK
 have hS:=Fb.begin w
 have hG:GsAt [gN a n m] w:=⟨h,trivial⟩
 refine wq hS hG hK (fun p1=>[.n 4 #[.slice a n c] 26,.n 6 #[.bool false,.string ⟨#[]⟩,.int .i64 0] 23,.v 7 (.int .i64 0)]) (fun p1=>[(0,.bool g),(2,.int .i64 x),(4,pT (p1 0).N 0),(6,pT (p1 1).N 0),(7,.int .i64 0)]) (fun p1=>?_) (fun p1 W1 T hF hK=>?_)
 ·iterate 2 refine okn ?_
  refine okv ?_
  exact ok_nil
 replace hS:=SymF.fc hS hF [1000,1001] [⟨(p1 0).N,#[.slice a n c],26,true⟩,⟨(p1 1).N,#[.bool false,.string ⟨#[]⟩,.int .i64 0],23,true⟩]
 replace hG:=hF.gx
 clear hF
 refine wq hS hG hK (fun p2=>[.l 14 (.agg #[.slice a n c]) 0 0,.c (some 15) (cN W1.heap.size 10),.c (some 16) (cG W1.heap.size u fun x9=>.tuple #[.agg #[x9],.int .i64 (z:Int)]),.v 13 (.tuple #[.agg #[.slice (p2 2).A (p2 2).N (p2 2).C],.int .i64 (z:Int)]),.v 17 (.agg #[.slice (p2 2).A (p2 2).N (p2 2).C]),.v 18 (.int .i64 (z:Int)),.p 0 0 [.slice (p2 2).A (p2 2).N (p2 2).C],.v 8 (.int .i64 (z:Int))]) (fun p2=>[(0,.bool g),(2,.int .i64 x),(4,pT (p1 0).N 0),(6,pT (p1 1).N 0),(7,.int .i64 0),(8,.int .i64 (z:Int))]) (fun p2=>?_) (fun p2 W2 T hF hK=>?_)
 ·refine okl ?_
  refine okc (fun W cx=>as_n cx.hb (of_any 10 _ (by decide))) ?_
  refine okc (fun W cx=>as_g cx.hb (unhide HW _ _ _ c _ _ (p2 1).C (cx.G.1) (Mine.num (cx.F 1 (by kernel_rfl))))) ?_
  iterate 3 refine okv ?_
  refine okp ?_
  refine okv ?_
  exact ok_nil
 replace hS:=SymF.fc hS hF [0,1] [⟨(p1 0).N,#[.slice (p2 2).A (p2 2).N (p2 2).C],26,true⟩,⟨(p1 1).N,#[.bool false,.string ⟨#[]⟩,.int .i64 0],23,true⟩]
 replace hG:GsAt (gM W1.heap.size (p2 1).A (p2 1).N (p2 1).C 10 :: gM W1.heap.size (p2 2).A (p2 2).N (p2 2).C u :: _) W2:=⟨hF.fx 1,hF.fx 2,hF.gx⟩
 clear hF
 refine wp_seq ?_
 refine wq hS hG hK (fun p3=>[.l 20 (.agg #[.slice (p2 2).A (p2 2).N (p2 2).C]) 0 0,.c (some 21) (cV (.tuple #[.int .i64 (k:Int),.int .i64 0])),.v 19 (.tuple #[.int .i64 (k:Int),.int .i64 0]),.v 22 (.int .i64 (k:Int)),.v 23 (.int .i64 0),.v 9 (.int .i64 (k:Int)),.v 10 (.int .i64 0)]) (fun p3=>[(0,.bool g),(2,.int .i64 x),(4,pT (p1 0).N 0),(6,pT (p1 1).N 0),(7,.int .i64 0),(8,.int .i64 (z:Int)),(9,.int .i64 (k:Int)),(10,.int .i64 0)]) (fun p3=>?_) (fun p3 W3 T hF hK=>?_)
 ·refine okl ?_
  refine okc (fun W cx=>as_v (unhide HB _ _ _ (p2 2).C (Mine.num cx.G.2.1))) ?_
  iterate 5 refine okv ?_
  exact ok_nil
 obtain ⟨hS,hG⟩:=SymF.fg hS hF
 clear hF
 refine wq hS hG hK (fun p4=>[.v 24 (.int .i64 0),.v 25 (.bool false),.v 26 (.bool false),.v 27 (.int .i64 (k:Int)),.v 28 (.bool true),.v 29 (.bool true)]) (fun p4=>[(0,.bool g),(2,.int .i64 x),(4,pT (p1 0).N 0),(6,pT (p1 1).N 0),(7,.int .i64 0),(8,.int .i64 (z:Int)),(29,.bool true)]) (fun p4=>?_) (fun p4 W4 T hF hK=>?_)
 ·iterate 4 refine okv ?_
  refine okvb (decide_eq_true (show (k:Int) > 218454 by omega)) ?_
  refine okv ?_
  exact ok_nil
 obtain ⟨hS,hG⟩:=SymF.fg hS hF
 clear hF
 refine wp_cond_true (hK.ew 29) ?_
 refine wq hS hG hK (fun p5=>[.v 30 (.agg #[.bool false,.string ⟨#[]⟩,.int .i64 0]),.p 1 0 [.bool false,.string ⟨#[]⟩,.int .i64 0],.v 7 (.int .i64 4)]) (fun p5=>[(0,.bool g),(2,.int .i64 x),(4,pT (p1 0).N 0),(6,pT (p1 1).N 0),(7,.int .i64 4),(8,.int .i64 (z:Int)),(29,.bool true)]) (fun p5=>?_) (fun p5 W5 T hF hK=>?_)
 ·refine okv ?_
  refine okp ?_
  refine okv ?_
  exact ok_nil
 obtain ⟨hS,hG⟩:=SymF.fg hS hF
 clear hF
 refine wp_ret ?_
 refine then_r ?_
 exact sym_end hS hK (.tuple #[.agg #[.bool false,.string ⟨#[]⟩,.int .i64 0],.int .i64 4]) [(1,0,3)] [.bool false,.string ⟨#[]⟩,.int .i64 0] (by kernel_rfl) (by kernel_rfl) ⟨rfl,hS.fr⟩
theorem whole_g_ok (w:World) (g:Bool) (a:Option Addr) (n c m:Nat) (x:Int) (k:Nat) (z u:Nat) (t:ByteArray) (y:Int) (g3:Bool) (s3:ByteArray) (x3 e3:Int) (h:Num w a n m) (HW:Hid (∀ (W:World) (a:Option Addr) (n c:Nat) (a':Option Addr) (n' c':Nat),Num W a n m→Num W a' n' 10→Calls Tryz.prog 30 #[.agg #[.slice a n c],.agg #[.slice a' n' c']] W fun en W'=>(∃ a n c,en = .returned (.tuple #[.agg #[.slice a n c],.int .i64 (z:Int)])∧Mine W' W.heap.size a n c u)∧Below W.heap.size W W')) (HB:Hid (∀ (W:World) (a:Option Addr) (n c:Nat),Num W a n u→Calls Tryz.prog 78 #[.agg #[.slice a n c]] W fun en W'=>en = .returned (.tuple #[.int .i64 (k:Int),.int .i64 0])∧Below W.heap.size W W')) (hk:k≤218454) (HT:Hid (∀ (W:World) (a:Option Addr) (n c:Nat),Num W a n u→Calls Tryz.prog 79 #[.agg #[.slice a n c]] W fun en W'=>en = .returned (.tuple #[.string t,.int .i64 0])∧Below W.heap.size W W')) (hy:x+(z:Int) = y) (hy0:-1099511627776≤y) (hy1:y≤1099511627776) (HM:Hid (∀ W:World,Calls Tryz.prog 42 #[.bool g,.string t,.int .i64 y] W fun e W'=>e = .returned (.tuple #[.agg #[.bool g3,.string s3,.int .i64 x3],.int .i64 e3])∧Below W.heap.size W W')) :
  Calls Tryz.prog 33 #[.bool g,.agg #[.slice a n c],.int .i64 x] w fun en w'=>en = .returned (.tuple #[.agg #[.bool g3,.string s3,.int .i64 x3],.int .i64 e3])∧Below w.heap.size w w':=by
 refine calls_sym Tryz.func33 rfl (by kernel_rfl) fun T hK=>?_
 replace hK:Kn T _ [(0,.bool g),(1,.agg #[.slice a n c]),(2,.int .i64 x)]:=hK
 have hS:=Fb.begin w
 have hG:GsAt [gN a n m] w:=⟨h,trivial⟩
 refine wq hS hG hK (fun p1=>[.n 4 #[.slice a n c] 26,.n 6 #[.bool false,.string ⟨#[]⟩,.int .i64 0] 23,.v 7 (.int .i64 0)]) (fun p1=>[(0,.bool g),(2,.int .i64 x),(4,pT (p1 0).N 0),(6,pT (p1 1).N 0),(7,.int .i64 0)]) (fun p1=>?_) (fun p1 W1 T hF hK=>?_)
 ·iterate 2 refine okn ?_
  refine okv ?_
  exact ok_nil
 replace hS:=SymF.fc hS hF [1000,1001] [⟨(p1 0).N,#[.slice a n c],26,true⟩,⟨(p1 1).N,#[.bool false,.string ⟨#[]⟩,.int .i64 0],23,true⟩]
 replace hG:=hF.gx
 clear hF
 refine wq hS hG hK (fun p2=>[.l 14 (.agg #[.slice a n c]) 0 0,.c (some 15) (cN W1.heap.size 10),.c (some 16) (cG W1.heap.size u fun x9=>.tuple #[.agg #[x9],.int .i64 (z:Int)]),.v 13 (.tuple #[.agg #[.slice (p2 2).A (p2 2).N (p2 2).C],.int .i64 (z:Int)]),.v 17 (.agg #[.slice (p2 2).A (p2 2).N (p2 2).C]),.v 18 (.int .i64 (z:Int)),.p 0 0 [.slice (p2 2).A (p2 2).N (p2 2).C],.v 8 (.int .i64 (z:Int))]) (fun p2=>[(0,.bool g),(2,.int .i64 x),(4,pT (p1 0).N 0),(6,pT (p1 1).N 0),(7,.int .i64 0),(8,.int .i64 (z:Int))]) (fun p2=>?_) (fun p2 W2 T hF hK=>?_)
 ·refine okl ?_
  refine okc (fun W cx=>as_n cx.hb (of_any 10 _ (by decide))) ?_
  refine okc (fun W cx=>as_g cx.hb (unhide HW _ _ _ c _ _ (p2 1).C (cx.G.1) (Mine.num (cx.F 1 (by kernel_rfl))))) ?_
  iterate 3 refine okv ?_
  refine okp ?_
  refine okv ?_
  exact ok_nil
 replace hS:=SymF.fc hS hF [0,1] [⟨(p1 0).N,#[.slice (p2 2).A (p2 2).N (p2 2).C],26,true⟩,⟨(p1 1).N,#[.bool false,.string ⟨#[]⟩,.int .i64 0],23,true⟩]
 replace hG:GsAt (gM W1.heap.size (p2 1).A (p2 1).N (p2 1).C 10 :: gM W1.heap.size (p2 2).A (p2 2).N (p2 2).C u :: _) W2:=⟨hF.fx 1,hF.fx 2,hF.gx⟩
 clear hF
 refine wp_seq ?_
 refine wq hS hG hK (fun p3=>[.l 20 (.agg #[.slice (p2 2).A (p2 2).N (p2 2).C]) 0 0,.c (some 21) (cV (.tuple #[.int .i64 (k:Int),.int .i64 0])),.v 19 (.tuple #[.int .i64 (k:Int),.int .i64 0]),.v 22 (.int .i64 (k:Int)),.v 23 (.int .i64 0),.v 9 (.int .i64 (k:Int)),.v 10 (.int .i64 0)]) (fun p3=>[(0,.bool g),(2,.int .i64 x),(4,pT (p1 0).N 0),(6,pT (p1 1).N 0),(7,.int .i64 0),(8,.int .i64 (z:Int)),(9,.int .i64 (k:Int)),(10,.int .i64 0)]) (fun p3=>?_) (fun p3 W3 T hF hK=>?_)
 ·refine okl ?_
  refine okc (fun W cx=>as_v (unhide HB _ _ _ (p2 2).C (Mine.num cx.G.2.1))) ?_
  iterate 5 refine okv ?_
  exact ok_nil
 obtain ⟨hS,hG⟩:=SymF.fg hS hF
 clear hF
 refine wq hS hG hK (fun p4=>[.v 24 (.int .i64 0),.v 25 (.bool false),.v 26 (.bool false),.v 27 (.int .i64 (k:Int)),.v 28 (.bool false),.v 29 (.bool false)]) (fun p4=>[(0,.bool g),(2,.int .i64 x),(4,pT (p1 0).N 0),(6,pT (p1 1).N 0),(7,.int .i64 0),(8,.int .i64 (z:Int)),(29,.bool false)]) (fun p4=>?_) (fun p4 W4 T hF hK=>?_)
 ·iterate 4 refine okv ?_
  refine okvb (decide_eq_false (show ¬ (k:Int) > 218454 by omega)) ?_
  refine okv ?_
  exact ok_nil
 obtain ⟨hS,hG⟩:=SymF.fg hS hF
 clear hF
 refine wp_cond_false (hK.ew 29) (wp_skip (then_n ?_))
 refine wq hS hG hK (fun p5=>[.l 32 (.agg #[.slice (p2 2).A (p2 2).N (p2 2).C]) 0 0,.c (some 33) (cV (.tuple #[.string t,.int .i64 0])),.v 31 (.tuple #[.string t,.int .i64 0]),.v 34 (.string t),.v 35 (.int .i64 0),.v 11 (.string t),.v 12 (.int .i64 0)]) (fun p5=>[(0,.bool g),(2,.int .i64 x),(6,pT (p1 1).N 0),(7,.int .i64 0),(8,.int .i64 (z:Int)),(11,.string t),(12,.int .i64 0),(29,.bool false)]) (fun p5=>?_) (fun p5 W5 T hF hK=>?_)
 ·refine okl ?_
  refine okc (fun W cx=>as_v (unhide HT _ _ _ (p2 2).C (Mine.num cx.G.2.1))) ?_
  iterate 5 refine okv ?_
  exact ok_nil
 replace hS:=SymF.fc hS hF [1] [⟨(p1 1).N,#[.bool false,.string ⟨#[]⟩,.int .i64 0],23,true⟩]
 replace hG:=hF.gx
 clear hF
 refine wp_seq ?_
 refine wq hS hG hK (fun p6=>[.v 36 (.int .i64 0),.v 37 (.bool false)]) (fun p6=>[(0,.bool g),(2,.int .i64 x),(6,pT (p1 1).N 0),(7,.int .i64 0),(8,.int .i64 (z:Int)),(11,.string t),(12,.int .i64 0),(29,.bool false),(37,.bool false)]) (fun p6=>?_) (fun p6 W6 T hF hK=>?_)
 ·iterate 2 refine okv ?_
  exact ok_nil
 obtain ⟨hS,hG⟩:=SymF.fg hS hF
 clear hF
 refine wp_cond_false (hK.ew 37) (wp_skip (then_n ?_))
 refine wq hS hG hK (fun p7=>[.v 40 (.bool g),.v 41 (.string t),.v 42 (.int .i64 x),.v 43 (.int .i64 (z:Int)),.v 44 (.int .i64 y),.c (some 45) (cV (.tuple #[.agg #[.bool g3,.string s3,.int .i64 x3],.int .i64 e3])),.v 46 (.agg #[.bool g3,.string s3,.int .i64 x3]),.v 47 (.int .i64 e3),.p 0 0 [.bool g3,.string s3,.int .i64 x3],.v 7 (.int .i64 e3)]) (fun p7=>[(6,pT (p1 1).N 0),(7,.int .i64 e3),(12,.int .i64 0),(29,.bool false),(37,.bool false)]) (fun p7=>?_) (fun p7 W7 T hF hK=>?_)
 ·iterate 4 refine okv ?_
  refine okvi ((wr64 (x:=x+(z:Int)) (by omega) (by omega)).trans hy) ?_
  refine okc (fun W cx=>as_v (unhide HM _)) ?_
  iterate 2 refine okv ?_
  refine okp ?_
  refine okv ?_
  exact ok_nil
 replace hS:=SymF.fc hS hF [0] [⟨(p1 1).N,#[.bool g3,.string s3,.int .i64 x3],23,true⟩]
 replace hG:=hF.gx
 clear hF
 refine wp_ret ?_
 exact sym_end hS hK (.tuple #[.agg #[.bool g3,.string s3,.int .i64 x3],.int .i64 e3]) [(0,0,3)] [.bool g3,.string s3,.int .i64 x3] (by kernel_rfl) (by kernel_rfl) ⟨rfl,hS.fr⟩
theorem dmul_go (w:World) (g:Bool) (s:ByteArray) (x:Int) (g2:Bool) (s2:ByteArray) (x2:Int) (M N Q:Nat) (g3:Bool) (s3:ByteArray) (x3 e3:Int) (ng:Bool) (hng:(g != g2) = ng) (ha:s.size≠0) (hb:s2.size≠0) (hx0:-1073741824≤x) (hx1:x≤1073741824) (hy0:-1073741824≤x2) (hy1:x2≤1073741824) (HC:Hid (∀ W:World,Calls Tryz.prog 35 #[.agg #[.bool g,.string s,.int .i64 x],.agg #[.bool g2,.string s2,.int .i64 x2]] W fun e W'=>e = .returned (.int .i64 0)∧Below W.heap.size W W')) (H1:Hid (∀ W:World,Calls Tryz.prog 26 #[.agg #[.bool g,.string s,.int .i64 x]] W fun en W'=>(∃ a n c,en = .returned (.agg #[.slice a n c])∧Mine W' W.heap.size a n c M)∧Below W.heap.size W W')) (H2:Hid (∀ W:World,Calls Tryz.prog 26 #[.agg #[.bool g2,.string s2,.int .i64 x2]] W fun en W'=>(∃ a n c,en = .returned (.agg #[.slice a n c])∧Mine W' W.heap.size a n c N)∧Below W.heap.size W W')) (HQ:Hid (∀ (W:World) (a:Option Addr) (n c:Nat) (a':Option Addr) (n' c':Nat),Num W a n M→Num W a' n' N→Calls Tryz.prog 25 #[.agg #[.slice a n c],.agg #[.slice a' n' c']] W fun en W'=>(∃ a n c,en = .returned (.tuple #[.agg #[.slice a n c],.int .i64 0])∧Mine W' W.heap.size a n c Q)∧Below W.heap.size W W')) (HW:Hid (∀ (W:World) (a:Option Addr) (n c:Nat),Num W a n Q→Calls Tryz.prog 33 #[.bool ng,.agg #[.slice a n c],.int .i64 (x+x2)] W fun en W'=>en = .returned (.tuple #[.agg #[.bool g3,.string s3,.int .i64 x3],.int .i64 e3])∧Below W.heap.size W W'))  :
  Calls Tryz.prog 11 #[.agg #[.bool g,.string s,.int .i64 x],.agg #[.bool g2,.string s2,.int .i64 x2]] w fun en w'=>en = .returned (.tuple #[.agg #[.bool g3,.string s3,.int .i64 x3],.int .i64 e3])∧Below w.heap.size w w':=by
 refine calls_sym Tryz.func11 rfl (by kernel_rfl) fun T hK=>?_
 replace hK:Kn T _ [(0,.agg #[.bool g,.string s,.int .i64 x]),(1,.agg #[.bool g2,.string s2,.int .i64 x2])]:=hK
 have hS:=Fb.begin w
 have hG:GsAt [] w:=trivial
 refine wq hS hG hK (fun p1=>[.n 2 #[.bool g,.string s,.int .i64 x] 23,.n 3 #[.bool g2,.string s2,.int .i64 x2] 23,.n 4 #[.bool false,.string ⟨#[]⟩,.int .i64 0] 23,.v 5 (.int .i64 0)]) (fun p1=>[(2,pT (p1 0).N 0),(3,pT (p1 1).N 0),(4,pT (p1 2).N 0),(5,.int .i64 0)]) (fun p1=>?_) (fun p1 W1 T hF hK=>?_)
 ·iterate 3 refine okn ?_
  refine okv ?_
  exact ok_nil
 replace hS:=SymF.fc hS hF [1000,1001,1002] [⟨(p1 0).N,#[.bool g,.string s,.int .i64 x],23,true⟩,⟨(p1 1).N,#[.bool g2,.string s2,.int .i64 x2],23,true⟩,⟨(p1 2).N,#[.bool false,.string ⟨#[]⟩,.int .i64 0],23,true⟩]
 replace hG:=hF.gx
 clear hF
 refine wp_seq ?_
 refine wq hS hG hK (fun p2=>[.l 10 (.agg #[.bool g,.string s,.int .i64 x]) 0 0,.l 11 (.agg #[.bool g2,.string s2,.int .i64 x2]) 1 0,.c (some 12) (cV (.int .i64 0)),.v 6 (.int .i64 0)]) (fun p2=>[(2,pT (p1 0).N 0),(3,pT (p1 1).N 0),(4,pT (p1 2).N 0),(5,.int .i64 0),(6,.int .i64 0)]) (fun p2=>?_) (fun p2 W2 T hF hK=>?_)
 ·iterate 2 refine okl ?_
  refine okc (fun W cx=>as_v (unhide HC _)) ?_
  refine okv ?_
  exact ok_nil
 obtain ⟨hS,hG⟩:=SymF.fg hS hF
 clear hF
 refine wq hS hG hK (fun p3=>[.v 13 (.int .i64 0),.v 14 (.bool false)]) (fun p3=>[(2,pT (p1 0).N 0),(3,pT (p1 1).N 0),(4,pT (p1 2).N 0),(5,.int .i64 0),(6,.int .i64 0),(14,.bool false)]) (fun p3=>?_) (fun p3 W3 T hF hK=>?_)
 ·iterate 2 refine okv ?_
  exact ok_nil
 obtain ⟨hS,hG⟩:=SymF.fg hS hF
 clear hF
 refine wp_cond_false (hK.ew 14) (wp_skip (then_n ?_))
 refine wq hS hG hK (fun p4=>[.v 17 (pT (p1 0).N 0),.l 18 (.bool g) 0 0,.v 19 (pT (p1 1).N 0),.l 20 (.bool g2) 1 0,.v 21 (.bool ng),.v 7 (.bool ng)]) (fun p4=>[(2,pT (p1 0).N 0),(3,pT (p1 1).N 0),(4,pT (p1 2).N 0),(5,.int .i64 0),(6,.int .i64 0),(7,.bool ng),(14,.bool false)]) (fun p4=>?_) (fun p4 W4 T hF hK=>?_)
 ·refine okv ?_
  refine okl ?_
  refine okv ?_
  refine okl ?_
  refine okvb (hng) ?_
  refine okv ?_
  exact ok_nil
 obtain ⟨hS,hG⟩:=SymF.fg hS hF
 clear hF
 refine wp_seq ?_
 refine wq hS hG hK (fun p5=>[.l 22 (.agg #[.bool g,.string s,.int .i64 x]) 0 0,.c (some 23) (cV (.bool false)),.v 24 (.bool false),.l 25 (.agg #[.bool g2,.string s2,.int .i64 x2]) 1 0,.c (some 26) (cV (.bool false)),.v 27 (.bool false)]) (fun p5=>[(2,pT (p1 0).N 0),(3,pT (p1 1).N 0),(4,pT (p1 2).N 0),(5,.int .i64 0),(6,.int .i64 0),(7,.bool ng),(14,.bool false),(27,.bool false)]) (fun p5=>?_) (fun p5 W5 T hF hK=>?_)
 ·refine okl ?_
  refine okc (fun W cx=>as_v (isN_f _ g s x ha)) ?_
  refine okv ?_
  refine okl ?_
  refine okc (fun W cx=>as_v (isN_f _ g2 s2 x2 hb)) ?_
  refine okv ?_
  exact ok_nil
 obtain ⟨hS,hG⟩:=SymF.fg hS hF
 clear hF
 refine wp_cond_false (hK.ew 27) (wp_skip (then_n ?_))
 refine wq hS hG hK (fun p6=>[.l 31 (.agg #[.bool g,.string s,.int .i64 x]) 0 0,.c (some 32) (cN W5.heap.size M),.l 33 (.agg #[.bool g2,.string s2,.int .i64 x2]) 1 0,.c (some 34) (cN W5.heap.size N),.c (some 35) (cO W5.heap.size Q),.v 30 (.tuple #[.agg #[.slice (p6 4).A (p6 4).N (p6 4).C],.int .i64 0]),.v 36 (.agg #[.slice (p6 4).A (p6 4).N (p6 4).C]),.v 37 (.int .i64 0),.n 8 #[.slice none 0 0] 26,.p 1008 0 [.slice (p6 4).A (p6 4).N (p6 4).C],.v 9 (.int .i64 0)]) (fun p6=>[(2,pT (p1 0).N 0),(3,pT (p1 1).N 0),(4,pT (p1 2).N 0),(5,.int .i64 0),(6,.int .i64 0),(7,.bool ng),(8,pT (p6 8).N 0),(9,.int .i64 0),(14,.bool false),(27,.bool false)]) (fun p6=>?_) (fun p6 W6 T hF hK=>?_)
 ·refine okl ?_
  refine okc (fun W cx=>as_n cx.hb (unhide H1 _)) ?_
  refine okl ?_
  refine okc (fun W cx=>as_n cx.hb (unhide H2 _)) ?_
  refine okc (fun W cx=>as_o cx.hb (unhide HQ _ _ _ (p6 1).C _ _ (p6 3).C (Mine.num (cx.F 1 (by kernel_rfl))) (Mine.num (cx.F 3 (by kernel_rfl))))) ?_
  iterate 3 refine okv ?_
  refine okn ?_
  refine okp ?_
  refine okv ?_
  exact ok_nil
 replace hS:=SymF.fc hS hF [0,1,2,1008] [⟨(p1 0).N,#[.bool g,.string s,.int .i64 x],23,true⟩,⟨(p1 1).N,#[.bool g2,.string s2,.int .i64 x2],23,true⟩,⟨(p1 2).N,#[.bool false,.string ⟨#[]⟩,.int .i64 0],23,true⟩,⟨(p6 8).N,#[.slice (p6 4).A (p6 4).N (p6 4).C],26,true⟩]
 replace hG:GsAt (gM W5.heap.size (p6 1).A (p6 1).N (p6 1).C M :: gM W5.heap.size (p6 3).A (p6 3).N (p6 3).C N :: gM W5.heap.size (p6 4).A (p6 4).N (p6 4).C Q :: _) W6:=⟨hF.fx 1,hF.fx 3,hF.fx 4,hF.gx⟩
 clear hF
 refine wp_seq ?_
 refine wq hS hG hK (fun p7=>[.v 38 (.int .i64 0),.v 39 (.bool false)]) (fun p7=>[(2,pT (p1 0).N 0),(3,pT (p1 1).N 0),(4,pT (p1 2).N 0),(5,.int .i64 0),(6,.int .i64 0),(7,.bool ng),(8,pT (p6 8).N 0),(9,.int .i64 0),(14,.bool false),(27,.bool false),(39,.bool false)]) (fun p7=>?_) (fun p7 W7 T hF hK=>?_)
 ·iterate 2 refine okv ?_
  exact ok_nil
 obtain ⟨hS,hG⟩:=SymF.fg hS hF
 clear hF
 refine wp_cond_false (hK.ew 39) (wp_skip (then_n ?_))
 refine wq hS hG hK (fun p8=>[.v 42 (.bool ng),.l 43 (.agg #[.slice (p6 4).A (p6 4).N (p6 4).C]) 3 0,.v 44 (pT (p1 0).N 2),.l 45 (.int .i64 x) 0 2,.v 46 (pT (p1 1).N 2),.l 47 (.int .i64 x2) 1 2,.v 48 (.int .i64 (x+x2)),.c (some 49) (cV (.tuple #[.agg #[.bool g3,.string s3,.int .i64 x3],.int .i64 e3])),.v 50 (.agg #[.bool g3,.string s3,.int .i64 x3]),.v 51 (.int .i64 e3),.p 2 0 [.bool g3,.string s3,.int .i64 x3],.v 5 (.int .i64 e3)]) (fun p8=>[(4,pT (p1 2).N 0),(5,.int .i64 e3),(6,.int .i64 0),(7,.bool ng),(9,.int .i64 0),(14,.bool false),(27,.bool false),(39,.bool false)]) (fun p8=>?_) (fun p8 W8 T hF hK=>?_)
 ·refine okv ?_
  refine okl ?_
  refine okv ?_
  refine okl ?_
  refine okv ?_
  refine okl ?_
  refine okvi (wr64 (x:=x+x2) (by omega) (by omega)) ?_
  refine okc (fun W cx=>as_v (unhide HW _ _ _ (p6 4).C (Mine.num cx.G.2.2.1))) ?_
  iterate 2 refine okv ?_
  refine okp ?_
  refine okv ?_
  exact ok_nil
 replace hS:=SymF.fc hS hF [2] [⟨(p1 2).N,#[.bool g3,.string s3,.int .i64 x3],23,true⟩]
 replace hG:=hF.gx
 clear hF
 refine wp_ret ?_
 exact sym_end hS hK (.tuple #[.agg #[.bool g3,.string s3,.int .i64 x3],.int .i64 e3]) [(0,0,3)] [.bool g3,.string s3,.int .i64 x3] (by kernel_rfl) (by kernel_rfl) ⟨rfl,hS.fr⟩
end Go.Proofs.YtpmmapoabbpaiaaGreat
