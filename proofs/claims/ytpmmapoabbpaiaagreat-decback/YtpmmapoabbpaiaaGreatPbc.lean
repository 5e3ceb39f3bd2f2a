/- Of what DecBackRow stands on: DbW. -/
import Derived.Test.YtpmmapoabbpaiaaGreatPbb
import Derived.Test.YtpmmapoabbpaiaaGreatPaj
import Derived.Test.YtpmmapoabbpaiaaGreatPaz
namespace Go.Proofs.YtpmmapoabbpaiaaGreat
open Go.RowKit
set_option maxHeartbeats 2000000
set_option maxRecDepth 20000
theorem num_nil (w:World):Num w none 0 0:=⟨[],rfl,Or.inl rfl,Pl.wf_nil,Pl.norm_nil,rfl,by omega⟩
theorem dof_e (w:World) (g:Bool) (a b:Option Addr) (n c k l:Nat) (e1:Int) (he:e1≠0) (HC:Hid (∀ W:World,Below w.heap.size w W→Calls Tryz.prog 29 #[.agg #[.bool g,.slice a n c,.slice b k l]] W fun e W'=>e = .returned (.int .i64 e1)∧Below W.heap.size W W'))  :
  Calls Tryz.prog 8 #[.agg #[.bool g,.slice a n c,.slice b k l]] w fun en w'=>en = .returned (.tuple #[.agg #[.bool false,.string ⟨#[]⟩,.int .i64 0],.bool false,.int .i64 e1])∧Below w.heap.size w w':=by
 refine calls_sym Tryz.func8 rfl (by kernel_rfl) fun T hK=>?_
 replace hK:Kn T _ [(0,.agg #[.bool g,.slice a n c,.slice b k l])]:=hK
 have hS:=Fb.begin w
 have hG:GsAt [] w:=trivial
 refine wq hS hG hK (fun p1=>[.n 1 #[.bool g,.slice a n c,.slice b k l] 28,.n 2 #[.bool false,.string ⟨#[]⟩,.int .i64 0] 23,.v 3 (.bool false),.v 4 (.int .i64 0)]) (fun p1=>[(1,pT (p1 0).N 0),(2,pT (p1 1).N 0),(3,.bool false),(4,.int .i64 0)]) (fun p1=>?_) (fun p1 W1 T hF hK=>?_)
 ·iterate 2 refine okn ?_
  iterate 2 refine okv ?_
  exact ok_nil
 replace hS:=SymF.fc hS hF [1000,1001] [⟨(p1 0).N,#[.bool g,.slice a n c,.slice b k l],28,true⟩,⟨(p1 1).N,#[.bool false,.string ⟨#[]⟩,.int .i64 0],23,true⟩]
 replace hG:=hF.gx
 clear hF
 refine wp_seq ?_
 refine wq hS hG hK (fun p2=>[.l 16 (.agg #[.bool g,.slice a n c,.slice b k l]) 0 0,.c (some 17) (cV (.int .i64 e1)),.v 5 (.int .i64 e1)]) (fun p2=>[(1,pT (p1 0).N 0),(2,pT (p1 1).N 0),(3,.bool false),(4,.int .i64 0),(5,.int .i64 e1)]) (fun p2=>?_) (fun p2 W2 T hF hK=>?_)
 ·refine okl ?_
  refine okc (fun W cx=>as_v (unhide HC _ cx.fr)) ?_
  refine okv ?_
  exact ok_nil
 obtain ⟨hS,hG⟩:=SymF.fg hS hF
 clear hF
 refine wq hS hG hK (fun p3=>[.v 18 (.int .i64 e1),.v 19 (.bool true)]) (fun p3=>[(1,pT (p1 0).N 0),(2,pT (p1 1).N 0),(3,.bool false),(4,.int .i64 0),(5,.int .i64 e1),(19,.bool true)]) (fun p3=>?_) (fun p3 W3 T hF hK=>?_)
 ·refine okv ?_
  refine okvb (bne_iff_ne.2 he) ?_
  exact ok_nil
 obtain ⟨hS,hG⟩:=SymF.fg hS hF
 clear hF
 refine wp_cond_true (hK.ew 19) ?_
 refine wq hS hG hK (fun p4=>[.v 20 (.agg #[.bool false,.string ⟨#[]⟩,.int .i64 0]),.v 21 (.int .i64 e1),.p 1 0 [.bool false,.string ⟨#[]⟩,.int .i64 0],.v 3 (.bool false),.v 4 (.int .i64 e1)]) (fun p4=>[(1,pT (p1 0).N 0),(2,pT (p1 1).N 0),(3,.bool false),(4,.int .i64 e1)]) (fun p4=>?_) (fun p4 W4 T hF hK=>?_)
 ·iterate 2 refine okv ?_
  refine okp ?_
  iterate 2 refine okv ?_
  exact ok_nil
 obtain ⟨hS,hG⟩:=SymF.fg hS hF
 clear hF
 refine wp_ret ?_
 refine then_r ?_
 exact sym_end hS hK (.tuple #[.agg #[.bool false,.string ⟨#[]⟩,.int .i64 0],.bool false,.int .i64 e1]) [(1,0,3)] [.bool false,.string ⟨#[]⟩,.int .i64 0] (by kernel_rfl) (by kernel_rfl) ⟨rfl,hS.fr⟩
theorem dof_0 (w:World) (g:Bool) (a b:Option Addr) (n c k l:Nat) (hn:n = 0) (HC:Hid (∀ W:World,Below w.heap.size w W→Calls Tryz.prog 29 #[.agg #[.bool g,.slice a n c,.slice b k l]] W fun e W'=>e = .returned (.int .i64 0)∧Below W.heap.size W W'))  :
  Calls Tryz.prog 8 #[.agg #[.bool g,.slice a n c,.slice b k l]] w fun en w'=>en = .returned (.tuple #[.agg #[.bool false,.string ⟨#[]⟩,.int .i64 0],.bool true,.int .i64 0])∧Below w.heap.size w w':=by
 refine calls_sym Tryz.func8 rfl (by kernel_rfl) fun T hK=>?_
 replace hK:Kn T _ [(0,.agg #[.bool g,.slice a n c,.slice b k l])]:=hK
 have hS:=Fb.begin w
 have hG:GsAt [] w:=trivial
 refine wq hS hG hK (fun p1=>[.n 1 #[.bool g,.slice a n c,.slice b k l] 28,.n 2 #[.bool false,.string ⟨#[]⟩,.int .i64 0] 23,.v 3 (.bool false),.v 4 (.int .i64 0)]) (fun p1=>[(1,pT (p1 0).N 0),(2,pT (p1 1).N 0),(3,.bool false),(4,.int .i64 0)]) (fun p1=>?_) (fun p1 W1 T hF hK=>?_)
 ·iterate 2 refine okn ?_
  iterate 2 refine okv ?_
  exact ok_nil
 replace hS:=SymF.fc hS hF [1000,1001] [⟨(p1 0).N,#[.bool g,.slice a n c,.slice b k l],28,true⟩,⟨(p1 1).N,#[.bool false,.string ⟨#[]⟩,.int .i64 0],23,true⟩]
 replace hG:=hF.gx
 clear hF
 refine wp_seq ?_
 refine wq hS hG hK (fun p2=>[.l 16 (.agg #[.bool g,.slice a n c,.slice b k l]) 0 0,.c (some 17) (cV (.int .i64 0)),.v 5 (.int .i64 0)]) (fun p2=>[(1,pT (p1 0).N 0),(2,pT (p1 1).N 0),(3,.bool false),(4,.int .i64 0),(5,.int .i64 0)]) (fun p2=>?_) (fun p2 W2 T hF hK=>?_)
 ·refine okl ?_
  refine okc (fun W cx=>as_v (unhide HC _ cx.fr)) ?_
  refine okv ?_
  exact ok_nil
 obtain ⟨hS,hG⟩:=SymF.fg hS hF
 clear hF
 refine wq hS hG hK (fun p3=>[.v 18 (.int .i64 0),.v 19 (.bool false)]) (fun p3=>[(1,pT (p1 0).N 0),(2,pT (p1 1).N 0),(3,.bool false),(4,.int .i64 0),(5,.int .i64 0),(19,.bool false)]) (fun p3=>?_) (fun p3 W3 T hF hK=>?_)
 ·iterate 2 refine okv ?_
  exact ok_nil
 obtain ⟨hS,hG⟩:=SymF.fg hS hF
 clear hF
 refine wp_cond_false (hK.ew 19) (wp_skip ?_)
 refine then_n (wp_seq ?_)
 refine wq hS hG hK (fun p4=>[.v 22 (pT (p1 0).N 1),.v 23 (pT (p1 0).N 1),.l 24 (.slice a n c) 0 1,.v 25 (.int .i64 (n:Int)),.v 26 (.bool true)]) (fun p4=>[(1,pT (p1 0).N 0),(2,pT (p1 1).N 0),(3,.bool false),(4,.int .i64 0),(5,.int .i64 0),(26,.bool true)]) (fun p4=>?_) (fun p4 W4 T hF hK=>?_)
 ·iterate 2 refine okv ?_
  refine okl ?_
  refine okv ?_
  refine okvb (beq_iff_eq.2 (show (n:Int) = 0 by omega)) ?_
  exact ok_nil
 obtain ⟨hS,hG⟩:=SymF.fg hS hF
 clear hF
 refine wp_cond_true (hK.ew 26) ?_
 refine wq hS hG hK (fun p5=>[.v 27 (.agg #[.bool false,.string ⟨#[]⟩,.int .i64 0]),.p 1 0 [.bool false,.string ⟨#[]⟩,.int .i64 0],.v 3 (.bool true),.v 4 (.int .i64 0)]) (fun p5=>[(1,pT (p1 0).N 0),(2,pT (p1 1).N 0),(3,.bool true),(4,.int .i64 0),(5,.int .i64 0)]) (fun p5=>?_) (fun p5 W5 T hF hK=>?_)
 ·refine okv ?_
  refine okp ?_
  iterate 2 refine okv ?_
  exact ok_nil
 obtain ⟨hS,hG⟩:=SymF.fg hS hF
 clear hF
 refine wp_ret ?_
 refine then_r ?_
 exact sym_end hS hK (.tuple #[.agg #[.bool false,.string ⟨#[]⟩,.int .i64 0],.bool true,.int .i64 0]) [(1,0,3)] [.bool false,.string ⟨#[]⟩,.int .i64 0] (by kernel_rfl) (by kernel_rfl) ⟨rfl,hS.fr⟩
theorem dof_no (w:World) (g:Bool) (a b:Option Addr) (n c k l:Nat) (p d l1 l2 l3 t1 t2 t3 lo:Nat) (lb:Bool) (h1:Num w a n p) (h2:Num w b k d) (hn:n≠0) (HC:Hid (∀ W:World,Below w.heap.size w W→Calls Tryz.prog 29 #[.agg #[.bool g,.slice a n c,.slice b k l]] W fun e W'=>e = .returned (.int .i64 0)∧Below W.heap.size W W')) (HW1:Hid (∀ (W:World) (a:Option Addr) (n c:Nat) (a':Option Addr) (n' c':Nat),Num W a n d→Num W a' n' 10→Calls Tryz.prog 30 #[.agg #[.slice a n c],.agg #[.slice a' n' c']] W fun en W'=>(∃ A N C,en = .returned (.tuple #[.agg #[.slice A N C],.int .i64 (t1:Int)])∧Num W' A N l1)∧Below W.heap.size W W')) (HW2:Hid (∀ (W:World) (a:Option Addr) (n c:Nat) (a':Option Addr) (n' c':Nat),Num W a n l1→Num W a' n' 2→Calls Tryz.prog 30 #[.agg #[.slice a n c],.agg #[.slice a' n' c']] W fun en W'=>(∃ A N C,en = .returned (.tuple #[.agg #[.slice A N C],.int .i64 (t2:Int)])∧Num W' A N l2)∧Below W.heap.size W W')) (HW3:Hid (∀ (W:World) (a:Option Addr) (n c:Nat) (a':Option Addr) (n' c':Nat),Num W a n l2→Num W a' n' 5→Calls Tryz.prog 30 #[.agg #[.slice a n c],.agg #[.slice a' n' c']] W fun en W'=>(∃ A N C,en = .returned (.tuple #[.agg #[.slice A N C],.int .i64 (t3:Int)])∧Num W' A N l3)∧Below W.heap.size W W')) (HL:Hid (∀ (W:World) (a:Option Addr) (n c:Nat),Num W a n l3→Calls Tryz.prog 22 #[.agg #[.slice a n c]] W fun en W'=>en = .returned (.tuple #[.int .u64 (lo:Int),.bool lb])∧Below W.heap.size W W')) (hlo:lo≠1)  :
  Calls Tryz.prog 8 #[.agg #[.bool g,.slice a n c,.slice b k l]] w fun en w'=>en = .returned (.tuple #[.agg #[.bool false,.string ⟨#[]⟩,.int .i64 0],.bool false,.int .i64 0])∧Below w.heap.size w w':=by
 refine calls_sym Tryz.func8 rfl (by kernel_rfl) fun T hK=>?_
 replace hK:Kn T _ [(0,.agg #[.bool g,.slice a n c,.slice b k l])]:=hK
 have hS:=Fb.begin w
 have hG:GsAt [gN a n p,gN b k d] w:=⟨h1,h2,trivial⟩
 refine wq hS hG hK (fun p1=>[.n 1 #[.bool g,.slice a n c,.slice b k l] 28,.n 2 #[.bool false,.string ⟨#[]⟩,.int .i64 0] 23,.v 3 (.bool false),.v 4 (.int .i64 0)]) (fun p1=>[(1,pT (p1 0).N 0),(2,pT (p1 1).N 0),(3,.bool false),(4,.int .i64 0)]) (fun p1=>?_) (fun p1 W1 T hF hK=>?_)
 ·iterate 2 refine okn ?_
  iterate 2 refine okv ?_
  exact ok_nil
 replace hS:=SymF.fc hS hF [1000,1001] [⟨(p1 0).N,#[.bool g,.slice a n c,.slice b k l],28,true⟩,⟨(p1 1).N,#[.bool false,.string ⟨#[]⟩,.int .i64 0],23,true⟩]
 replace hG:=hF.gx
 clear hF
 refine wp_seq ?_
 refine wq hS hG hK (fun p2=>[.l 16 (.agg #[.bool g,.slice a n c,.slice b k l]) 0 0,.c (some 17) (cV (.int .i64 0)),.v 5 (.int .i64 0)]) (fun p2=>[(1,pT (p1 0).N 0),(2,pT (p1 1).N 0),(3,.bool false),(4,.int .i64 0),(5,.int .i64 0)]) (fun p2=>?_) (fun p2 W2 T hF hK=>?_)
 ·refine okl ?_
  refine okc (fun W cx=>as_v (unhide HC _ cx.fr)) ?_
  refine okv ?_
  exact ok_nil
 obtain ⟨hS,hG⟩:=SymF.fg hS hF
 clear hF
 refine wq hS hG hK (fun p3=>[.v 18 (.int .i64 0),.v 19 (.bool false)]) (fun p3=>[(1,pT (p1 0).N 0),(2,pT (p1 1).N 0),(3,.bool false),(4,.int .i64 0),(5,.int .i64 0),(19,.bool false)]) (fun p3=>?_) (fun p3 W3 T hF hK=>?_)
 ·iterate 2 refine okv ?_
  exact ok_nil
 obtain ⟨hS,hG⟩:=SymF.fg hS hF
 clear hF
 refine wp_cond_false (hK.ew 19) (wp_skip ?_)
 refine then_n (wp_seq ?_)
 refine wq hS hG hK (fun p4=>[.v 22 (pT (p1 0).N 1),.v 23 (pT (p1 0).N 1),.l 24 (.slice a n c) 0 1,.v 25 (.int .i64 (n:Int)),.v 26 (.bool false)]) (fun p4=>[(1,pT (p1 0).N 0),(2,pT (p1 1).N 0),(3,.bool false),(4,.int .i64 0),(5,.int .i64 0),(26,.bool false)]) (fun p4=>?_) (fun p4 W4 T hF hK=>?_)
 ·iterate 2 refine okv ?_
  refine okl ?_
  refine okv ?_
  refine okvb (beq_false_of_ne (show (n:Int)≠0 by omega)) ?_
  exact ok_nil
 obtain ⟨hS,hG⟩:=SymF.fg hS hF
 clear hF
 refine wp_cond_false (hK.ew 26) (wp_skip (then_n ?_))
 refine wq hS hG hK (fun p5=>[.v 29 (pT (p1 0).N 2),.l 30 (.agg #[.slice b k l]) 0 2,.c (some 31) (cN W4.heap.size 10),.c (some 32) (cR l1 fun x9=>.tuple #[.agg #[x9],.int .i64 (t1:Int)]),.v 28 (.tuple #[.agg #[.slice (p5 3).A (p5 3).N (p5 3).C],.int .i64 (t1:Int)]),.v 33 (.agg #[.slice (p5 3).A (p5 3).N (p5 3).C]),.v 34 (.int .i64 (t1:Int)),.n 6 #[.slice none 0 0] 26,.p 1007 0 [.slice (p5 3).A (p5 3).N (p5 3).C],.v 7 (.int .i64 (t1:Int))]) (fun p5=>[(1,pT (p1 0).N 0),(2,pT (p1 1).N 0),(3,.bool false),(4,.int .i64 0),(5,.int .i64 0),(6,pT (p5 7).N 0),(7,.int .i64 (t1:Int))]) (fun p5=>?_) (fun p5 W5 T hF hK=>?_)
 ·refine okv ?_
  refine okl ?_
  refine okc (fun W cx=>as_n cx.hb (of_any 10 _ (by decide))) ?_
  refine okc (fun W cx=>as_r (unhide HW1 _ _ _ l _ _ (p5 2).C (cx.G.2.1) (Mine.num (cx.F 2 (by kernel_rfl))))) ?_
  iterate 3 refine okv ?_
  refine okn ?_
  refine okp ?_
  refine okv ?_
  exact ok_nil
 replace hS:=SymF.fc hS hF [0,1,1007] [⟨(p1 0).N,#[.bool g,.slice a n c,.slice b k l],28,true⟩,⟨(p1 1).N,#[.bool false,.string ⟨#[]⟩,.int .i64 0],23,true⟩,⟨(p5 7).N,#[.slice (p5 3).A (p5 3).N (p5 3).C],26,true⟩]
 replace hG:GsAt (gM W4.heap.size (p5 2).A (p5 2).N (p5 2).C 10 :: gN (p5 3).A (p5 3).N l1 :: _) W5:=⟨hF.fx 2,hF.fx 3,hF.gx⟩
 clear hF
 refine wq hS hG hK (fun p6=>[.l 36 (.agg #[.slice (p5 3).A (p5 3).N (p5 3).C]) 2 0,.c (some 37) (cN W5.heap.size 2),.c (some 38) (cR l2 fun x9=>.tuple #[.agg #[x9],.int .i64 (t2:Int)]),.v 35 (.tuple #[.agg #[.slice (p6 2).A (p6 2).N (p6 2).C],.int .i64 (t2:Int)]),.v 39 (.agg #[.slice (p6 2).A (p6 2).N (p6 2).C]),.v 40 (.int .i64 (t2:Int)),.p 2 0 [.slice (p6 2).A (p6 2).N (p6 2).C],.v 8 (.int .i64 (t2:Int))]) (fun p6=>[(1,pT (p1 0).N 0),(2,pT (p1 1).N 0),(3,.bool false),(4,.int .i64 0),(5,.int .i64 0),(6,pT (p5 7).N 0),(7,.int .i64 (t1:Int)),(8,.int .i64 (t2:Int))]) (fun p6=>?_) (fun p6 W6 T hF hK=>?_)
 ·refine okl ?_
  refine okc (fun W cx=>as_n cx.hb (of_any 2 _ (by decide))) ?_
  refine okc (fun W cx=>as_r (unhide HW2 _ _ _ (p5 3).C _ _ (p6 1).C (cx.G.2.1) (Mine.num (cx.F 1 (by kernel_rfl))))) ?_
  iterate 3 refine okv ?_
  refine okp ?_
  refine okv ?_
  exact ok_nil
 replace hS:=SymF.fc hS hF [0,1,2] [⟨(p1 0).N,#[.bool g,.slice a n c,.slice b k l],28,true⟩,⟨(p1 1).N,#[.bool false,.string ⟨#[]⟩,.int .i64 0],23,true⟩,⟨(p5 7).N,#[.slice (p6 2).A (p6 2).N (p6 2).C],26,true⟩]
 replace hG:GsAt (gM W5.heap.size (p6 1).A (p6 1).N (p6 1).C 2 :: gN (p6 2).A (p6 2).N l2 :: _) W6:=⟨hF.fx 1,hF.fx 2,hF.gx⟩
 clear hF
 refine wq hS hG hK (fun p7=>[.l 42 (.agg #[.slice (p6 2).A (p6 2).N (p6 2).C]) 2 0,.c (some 43) (cN W6.heap.size 5),.c (some 44) (cR l3 fun x9=>.tuple #[.agg #[x9],.int .i64 (t3:Int)]),.v 41 (.tuple #[.agg #[.slice (p7 2).A (p7 2).N (p7 2).C],.int .i64 (t3:Int)]),.v 45 (.agg #[.slice (p7 2).A (p7 2).N (p7 2).C]),.v 46 (.int .i64 (t3:Int)),.p 2 0 [.slice (p7 2).A (p7 2).N (p7 2).C],.v 9 (.int .i64 (t3:Int))]) (fun p7=>[(1,pT (p1 0).N 0),(2,pT (p1 1).N 0),(3,.bool false),(4,.int .i64 0),(5,.int .i64 0),(6,pT (p5 7).N 0),(7,.int .i64 (t1:Int)),(8,.int .i64 (t2:Int)),(9,.int .i64 (t3:Int))]) (fun p7=>?_) (fun p7 W7 T hF hK=>?_)
 ·refine okl ?_
  refine okc (fun W cx=>as_n cx.hb (of_any 5 _ (by decide))) ?_
  refine okc (fun W cx=>as_r (unhide HW3 _ _ _ (p6 2).C _ _ (p7 1).C (cx.G.2.1) (Mine.num (cx.F 1 (by kernel_rfl))))) ?_
  iterate 3 refine okv ?_
  refine okp ?_
  refine okv ?_
  exact ok_nil
 replace hS:=SymF.fc hS hF [0,1,2] [⟨(p1 0).N,#[.bool g,.slice a n c,.slice b k l],28,true⟩,⟨(p1 1).N,#[.bool false,.string ⟨#[]⟩,.int .i64 0],23,true⟩,⟨(p5 7).N,#[.slice (p7 2).A (p7 2).N (p7 2).C],26,true⟩]
 replace hG:GsAt (gM W6.heap.size (p7 1).A (p7 1).N (p7 1).C 5 :: gN (p7 2).A (p7 2).N l3 :: _) W7:=⟨hF.fx 1,hF.fx 2,hF.gx⟩
 clear hF
 refine wp_seq ?_
 refine wq hS hG hK (fun p8=>[.l 48 (.agg #[.slice (p7 2).A (p7 2).N (p7 2).C]) 2 0,.c (some 49) (cV (.tuple #[.int .u64 (lo:Int),.bool lb])),.v 47 (.tuple #[.int .u64 (lo:Int),.bool lb]),.v 50 (.int .u64 (lo:Int)),.v 51 (.bool lb),.v 10 (.int .u64 (lo:Int)),.v 11 (.bool lb)]) (fun p8=>[(1,pT (p1 0).N 0),(2,pT (p1 1).N 0),(3,.bool false),(4,.int .i64 0),(5,.int .i64 0),(7,.int .i64 (t1:Int)),(8,.int .i64 (t2:Int)),(9,.int .i64 (t3:Int)),(10,.int .u64 (lo:Int))]) (fun p8=>?_) (fun p8 W8 T hF hK=>?_)
 ·refine okl ?_
  refine okc (fun W cx=>as_v (unhide HL _ _ _ (p7 2).C (cx.G.2.1))) ?_
  iterate 5 refine okv ?_
  exact ok_nil
 obtain ⟨hS,hG⟩:=SymF.fg hS hF
 clear hF
 refine wq hS hG hK (fun p9=>[.v 52 (.int .u64 (lo:Int)),.v 53 (.bool true)]) (fun p9=>[(1,pT (p1 0).N 0),(2,pT (p1 1).N 0),(3,.bool false),(4,.int .i64 0),(5,.int .i64 0),(7,.int .i64 (t1:Int)),(8,.int .i64 (t2:Int)),(9,.int .i64 (t3:Int)),(53,.bool true)]) (fun p9=>?_) (fun p9 W9 T hF hK=>?_)
 ·refine okv ?_
  refine okvb (bne_iff_ne.2 (show (lo:Int)≠1 by omega)) ?_
  exact ok_nil
 obtain ⟨hS,hG⟩:=SymF.fg hS hF
 clear hF
 refine wp_cond_true (hK.ew 53) ?_
 refine wq hS hG hK (fun p10=>[.v 54 (.agg #[.bool false,.string ⟨#[]⟩,.int .i64 0]),.p 1 0 [.bool false,.string ⟨#[]⟩,.int .i64 0],.v 3 (.bool false),.v 4 (.int .i64 0)]) (fun p10=>[(1,pT (p1 0).N 0),(2,pT (p1 1).N 0),(3,.bool false),(4,.int .i64 0),(5,.int .i64 0),(7,.int .i64 (t1:Int)),(8,.int .i64 (t2:Int)),(9,.int .i64 (t3:Int))]) (fun p10=>?_) (fun p10 W10 T hF hK=>?_)
 ·refine okv ?_
  refine okp ?_
  iterate 2 refine okv ?_
  exact ok_nil
 replace hS:=SymF.fc hS hF [0,1] [⟨(p1 0).N,#[.bool g,.slice a n c,.slice b k l],28,true⟩,⟨(p1 1).N,#[.bool false,.string ⟨#[]⟩,.int .i64 0],23,true⟩]
 replace hG:=hF.gx
 clear hF
 refine wp_ret ?_
 refine then_r ?_
 exact sym_end hS hK (.tuple #[.agg #[.bool false,.string ⟨#[]⟩,.int .i64 0],.bool false,.int .i64 0]) [(1,0,3)] [.bool false,.string ⟨#[]⟩,.int .i64 0] (by kernel_rfl) (by kernel_rfl) ⟨rfl,hS.fr⟩
theorem dof_m (w:World) (g:Bool) (a b:Option Addr) (n c k l:Nat) (p d l1 l2 l3 t1 t2 t3 lo:Nat) (lb:Bool) (q5 v:Nat) (h1:Num w a n p) (h2:Num w b k d) (hn:n≠0) (HC:Hid (∀ W:World,Below w.heap.size w W→Calls Tryz.prog 29 #[.agg #[.bool g,.slice a n c,.slice b k l]] W fun e W'=>e = .returned (.int .i64 0)∧Below W.heap.size W W')) (HW1:Hid (∀ (W:World) (a:Option Addr) (n c:Nat) (a':Option Addr) (n' c':Nat),Num W a n d→Num W a' n' 10→Calls Tryz.prog 30 #[.agg #[.slice a n c],.agg #[.slice a' n' c']] W fun en W'=>(∃ A N C,en = .returned (.tuple #[.agg #[.slice A N C],.int .i64 (t1:Int)])∧Num W' A N l1)∧Below W.heap.size W W')) (HW2:Hid (∀ (W:World) (a:Option Addr) (n c:Nat) (a':Option Addr) (n' c':Nat),Num W a n l1→Num W a' n' 2→Calls Tryz.prog 30 #[.agg #[.slice a n c],.agg #[.slice a' n' c']] W fun en W'=>(∃ A N C,en = .returned (.tuple #[.agg #[.slice A N C],.int .i64 (t2:Int)])∧Num W' A N l2)∧Below W.heap.size W W')) (HW3:Hid (∀ (W:World) (a:Option Addr) (n c:Nat) (a':Option Addr) (n' c':Nat),Num W a n l2→Num W a' n' 5→Calls Tryz.prog 30 #[.agg #[.slice a n c],.agg #[.slice a' n' c']] W fun en W'=>(∃ A N C,en = .returned (.tuple #[.agg #[.slice A N C],.int .i64 (t3:Int)])∧Num W' A N l3)∧Below W.heap.size W W')) (HL:Hid (∀ (W:World) (a:Option Addr) (n c:Nat),Num W a n l3→Calls Tryz.prog 22 #[.agg #[.slice a n c]] W fun en W'=>en = .returned (.tuple #[.int .u64 (lo:Int),.bool lb])∧Below W.heap.size W W')) (hlo:lo = 1) (HP:Hid (∀ W:World,Calls Tryz.prog 27 #[.int .u32 5,.int .i64 (t2:Int)] W fun en W'=>(∃ A N C,en = .returned (.tuple #[.agg #[.slice A N C],.int .i64 0])∧Mine W' W.heap.size A N C q5)∧Below W.heap.size W W')) (HM:Hid (∀ (W:World) (a:Option Addr) (n c:Nat) (a':Option Addr) (n' c':Nat),Num W a n p→Num W a' n' q5→Calls Tryz.prog 25 #[.agg #[.slice a n c],.agg #[.slice a' n' c']] W fun en W'=>en = .returned (.tuple #[.agg #[.slice none 0 0],.int .i64 4])∧Below W.heap.size W W')) (HU:Hid (∀ (W:World) (a:Option Addr) (n c:Nat),Num W a n 0→Calls Tryz.prog 32 #[.agg #[.slice a n c],.int .i64 (t3:Int)] W fun en W'=>(∃ A N C,en = .returned (.tuple #[.agg #[.slice A N C],.int .i64 0])∧Mine W' W.heap.size A N C v)∧Below W.heap.size W W'))  :
  Calls Tryz.prog 8 #[.agg #[.bool g,.slice a n c,.slice b k l]] w fun en w'=>en = .returned (.tuple #[.agg #[.bool false,.string ⟨#[]⟩,.int .i64 0],.bool false,.int .i64 4])∧Below w.heap.size w w':=by
 refine calls_sym Tryz.func8 rfl (by kernel_rfl) fun T hK=>?_
 replace hK:Kn T _ [(0,.agg #[.bool g,.slice a n c,.slice b k l])]:=hK
 have hS:=Fb.begin w
 have hG:GsAt [gN a n p,gN b k d] w:=⟨h1,h2,trivial⟩
 refine wq hS hG hK (fun p1=>[.n 1 #[.bool g,.slice a n c,.slice b k l] 28,.n 2 #[.bool false,.string ⟨#[]⟩,.int .i64 0] 23,.v 3 (.bool false),.v 4 (.int .i64 0)]) (fun p1=>[(1,pT (p1 0).N 0),(2,pT (p1 1).N 0),(3,.bool false),(4,.int .i64 0)]) (fun p1=>?_) (fun p1 W1 T hF hK=>?_)
 ·iterate 2 refine okn ?_
  iterate 2 refine okv ?_
  exact ok_nil
 replace hS:=SymF.fc hS hF [1000,1001] [⟨(p1 0).N,#[.bool g,.slice a n c,.slice b k l],28,true⟩,⟨(p1 1).N,#[.bool false,.string ⟨#[]⟩,.int .i64 0],23,true⟩]
 replace hG:=hF.gx
 clear hF
 refine wp_seq ?_
 refine wq hS hG hK (fun p2=>[.l 16 (.agg #[.bool g,.slice a n c,.slice b k l]) 0 0,.c (some 17) (cV (.int .i64 0)),.v 5 (.int .i64 0)]) (fun p2=>[(1,pT (p1 0).N 0),(2,pT (p1 1).N 0),(3,.bool false),(4,.int .i64 0),(5,.int .i64 0)]) (fun p2=>?_) (fun p2 W2 T hF hK=>?_)
 ·refine okl ?_
  refine okc (fun W cx=>as_v (unhide HC _ cx.fr)) ?_
  refine okv ?_
  exact ok_nil
 obtain ⟨hS,hG⟩:=SymF.fg hS hF
 clear hF
 refine wq hS hG hK (fun p3=>[.v 18 (.int .i64 0),.v 19 (.bool false)]) (fun p3=>[(1,pT (p1 0).N 0),(2,pT (p1 1).N 0),(3,.bool false),(4,.int .i64 0),(5,.int .i64 0),(19,.bool false)]) (fun p3=>?_) (fun p3 W3 T hF hK=>?_)
 ·iterate 2 refine okv ?_
  exact ok_nil
 obtain ⟨hS,hG⟩:=SymF.fg hS hF
 clear hF
 refine wp_cond_false (hK.ew 19) (wp_skip ?_)
 refine then_n (wp_seq ?_)
 refine wq hS hG hK (fun p4=>[.v 22 (pT (p1 0).N 1),.v 23 (pT (p1 0).N 1),.l 24 (.slice a n c) 0 1,.v 25 (.int .i64 (n:Int)),.v 26 (.bool false)]) (fun p4=>[(1,pT (p1 0).N 0),(2,pT (p1 1).N 0),(3,.bool false),(4,.int .i64 0),(5,.int .i64 0),(26,.bool false)]) (fun p4=>?_) (fun p4 W4 T hF hK=>?_)
 ·iterate 2 refine okv ?_
  refine okl ?_
  refine okv ?_
  refine okvb (beq_false_of_ne (show (n:Int)≠0 by omega)) ?_
  exact ok_nil
 obtain ⟨hS,hG⟩:=SymF.fg hS hF
 clear hF
 refine wp_cond_false (hK.ew 26) (wp_skip (then_n ?_))
 refine wq hS hG hK (fun p5=>[.v 29 (pT (p1 0).N 2),.l 30 (.agg #[.slice b k l]) 0 2,.c (some 31) (cN W4.heap.size 10),.c (some 32) (cR l1 fun x9=>.tuple #[.agg #[x9],.int .i64 (t1:Int)]),.v 28 (.tuple #[.agg #[.slice (p5 3).A (p5 3).N (p5 3).C],.int .i64 (t1:Int)]),.v 33 (.agg #[.slice (p5 3).A (p5 3).N (p5 3).C]),.v 34 (.int .i64 (t1:Int)),.n 6 #[.slice none 0 0] 26,.p 1007 0 [.slice (p5 3).A (p5 3).N (p5 3).C],.v 7 (.int .i64 (t1:Int))]) (fun p5=>[(1,pT (p1 0).N 0),(2,pT (p1 1).N 0),(3,.bool false),(4,.int .i64 0),(5,.int .i64 0),(6,pT (p5 7).N 0),(7,.int .i64 (t1:Int))]) (fun p5=>?_) (fun p5 W5 T hF hK=>?_)
 ·refine okv ?_
  refine okl ?_
  refine okc (fun W cx=>as_n cx.hb (of_any 10 _ (by decide))) ?_
  refine okc (fun W cx=>as_r (unhide HW1 _ _ _ l _ _ (p5 2).C (cx.G.2.1) (Mine.num (cx.F 2 (by kernel_rfl))))) ?_
  iterate 3 refine okv ?_
  refine okn ?_
  refine okp ?_
  refine okv ?_
  exact ok_nil
 replace hS:=SymF.fc hS hF [0,1,1007] [⟨(p1 0).N,#[.bool g,.slice a n c,.slice b k l],28,true⟩,⟨(p1 1).N,#[.bool false,.string ⟨#[]⟩,.int .i64 0],23,true⟩,⟨(p5 7).N,#[.slice (p5 3).A (p5 3).N (p5 3).C],26,true⟩]
 replace hG:GsAt (gM W4.heap.size (p5 2).A (p5 2).N (p5 2).C 10 :: gN (p5 3).A (p5 3).N l1 :: _) W5:=⟨hF.fx 2,hF.fx 3,hF.gx⟩
 clear hF
 refine wq hS hG hK (fun p6=>[.l 36 (.agg #[.slice (p5 3).A (p5 3).N (p5 3).C]) 2 0,.c (some 37) (cN W5.heap.size 2),.c (some 38) (cR l2 fun x9=>.tuple #[.agg #[x9],.int .i64 (t2:Int)]),.v 35 (.tuple #[.agg #[.slice (p6 2).A (p6 2).N (p6 2).C],.int .i64 (t2:Int)]),.v 39 (.agg #[.slice (p6 2).A (p6 2).N (p6 2).C]),.v 40 (.int .i64 (t2:Int)),.p 2 0 [.slice (p6 2).A (p6 2).N (p6 2).C],.v 8 (.int .i64 (t2:Int))]) (fun p6=>[(1,pT (p1 0).N 0),(2,pT (p1 1).N 0),(3,.bool false),(4,.int .i64 0),(5,.int .i64 0),(6,pT (p5 7).N 0),(7,.int .i64 (t1:Int)),(8,.int .i64 (t2:Int))]) (fun p6=>?_) (fun p6 W6 T hF hK=>?_)
 ·refine okl ?_
  refine okc (fun W cx=>as_n cx.hb (of_any 2 _ (by decide))) ?_
  refine okc (fun W cx=>as_r (unhide HW2 _ _ _ (p5 3).C _ _ (p6 1).C (cx.G.2.1) (Mine.num (cx.F 1 (by kernel_rfl))))) ?_
  iterate 3 refine okv ?_
  refine okp ?_
  refine okv ?_
  exact ok_nil
 replace hS:=SymF.fc hS hF [0,1,2] [⟨(p1 0).N,#[.bool g,.slice a n c,.slice b k l],28,true⟩,⟨(p1 1).N,#[.bool false,.string ⟨#[]⟩,.int .i64 0],23,true⟩,⟨(p5 7).N,#[.slice (p6 2).A (p6 2).N (p6 2).C],26,true⟩]
 replace hG:GsAt (gM W5.heap.size (p6 1).A (p6 1).N (p6 1).C 2 :: gN (p6 2).A (p6 2).N l2 :: _) W6:=⟨hF.fx 1,hF.fx 2,hF.gx⟩
 clear hF
 refine wq hS hG hK (fun p7=>[.l 42 (.agg #[.slice (p6 2).A (p6 2).N (p6 2).C]) 2 0,.c (some 43) (cN W6.heap.size 5),.c (some 44) (cR l3 fun x9=>.tuple #[.agg #[x9],.int .i64 (t3:Int)]),.v 41 (.tuple #[.agg #[.slice (p7 2).A (p7 2).N (p7 2).C],.int .i64 (t3:Int)]),.v 45 (.agg #[.slice (p7 2).A (p7 2).N (p7 2).C]),.v 46 (.int .i64 (t3:Int)),.p 2 0 [.slice (p7 2).A (p7 2).N (p7 2).C],.v 9 (.int .i64 (t3:Int))]) (fun p7=>[(1,pT (p1 0).N 0),(2,pT (p1 1).N 0),(3,.bool false),(4,.int .i64 0),(5,.int .i64 0),(6,pT (p5 7).N 0),(7,.int .i64 (t1:Int)),(8,.int .i64 (t2:Int)),(9,.int .i64 (t3:Int))]) (fun p7=>?_) (fun p7 W7 T hF hK=>?_)
 ·refine okl ?_
  refine okc (fun W cx=>as_n cx.hb (of_any 5 _ (by decide))) ?_
  refine okc (fun W cx=>as_r (unhide HW3 _ _ _ (p6 2).C _ _ (p7 1).C (cx.G.2.1) (Mine.num (cx.F 1 (by kernel_rfl))))) ?_
  iterate 3 refine okv ?_
  refine okp ?_
  refine okv ?_
  exact ok_nil
 replace hS:=SymF.fc hS hF [0,1,2] [⟨(p1 0).N,#[.bool g,.slice a n c,.slice b k l],28,true⟩,⟨(p1 1).N,#[.bool false,.string ⟨#[]⟩,.int .i64 0],23,true⟩,⟨(p5 7).N,#[.slice (p7 2).A (p7 2).N (p7 2).C],26,true⟩]
 replace hG:GsAt (gM W6.heap.size (p7 1).A (p7 1).N (p7 1).C 5 :: gN (p7 2).A (p7 2).N l3 :: _) W7:=⟨hF.fx 1,hF.fx 2,hF.gx⟩
 clear hF
 refine wp_seq ?_
 refine wq hS hG hK (fun p8=>[.l 48 (.agg #[.slice (p7 2).A (p7 2).N (p7 2).C]) 2 0,.c (some 49) (cV (.tuple #[.int .u64 (lo:Int),.bool lb])),.v 47 (.tuple #[.int .u64 (lo:Int),.bool lb]),.v 50 (.int .u64 (lo:Int)),.v 51 (.bool lb),.v 10 (.int .u64 (lo:Int)),.v 11 (.bool lb)]) (fun p8=>[(1,pT (p1 0).N 0),(2,pT (p1 1).N 0),(3,.bool false),(4,.int .i64 0),(5,.int .i64 0),(7,.int .i64 (t1:Int)),(8,.int .i64 (t2:Int)),(9,.int .i64 (t3:Int)),(10,.int .u64 (lo:Int))]) (fun p8=>?_) (fun p8 W8 T hF hK=>?_)
 ·refine okl ?_
  refine okc (fun W cx=>as_v (unhide HL _ _ _ (p7 2).C (cx.G.2.1))) ?_
  iterate 5 refine okv ?_
  exact ok_nil
 obtain ⟨hS,hG⟩:=SymF.fg hS hF
 clear hF
 refine wq hS hG hK (fun p9=>[.v 52 (.int .u64 (lo:Int)),.v 53 (.bool false)]) (fun p9=>[(1,pT (p1 0).N 0),(2,pT (p1 1).N 0),(3,.bool false),(4,.int .i64 0),(5,.int .i64 0),(7,.int .i64 (t1:Int)),(8,.int .i64 (t2:Int)),(9,.int .i64 (t3:Int)),(53,.bool false)]) (fun p9=>?_) (fun p9 W9 T hF hK=>?_)
 ·refine okv ?_
  refine okvb (bne_eq_false_iff_eq.2 (show (lo:Int) = 1 by omega)) ?_
  exact ok_nil
 obtain ⟨hS,hG⟩:=SymF.fg hS hF
 clear hF
 refine wp_cond_false (hK.ew 53) (wp_skip (then_n ?_))
 refine wq hS hG hK (fun p10=>[.n 12 #[.int .i64 0] 58]) (fun p10=>[(1,pT (p1 0).N 0),(2,pT (p1 1).N 0),(3,.bool false),(4,.int .i64 0),(5,.int .i64 0),(7,.int .i64 (t1:Int)),(8,.int .i64 (t2:Int)),(9,.int .i64 (t3:Int)),(12,pT (p10 0).N 0)]) (fun p10=>?_) (fun p10 W10 T hF hK=>?_)
 ·refine okn ?_
  exact ok_nil
 replace hS:=SymF.fc hS hF [0,1,1000] [⟨(p1 0).N,#[.bool g,.slice a n c,.slice b k l],28,true⟩,⟨(p1 1).N,#[.bool false,.string ⟨#[]⟩,.int .i64 0],23,true⟩,⟨(p10 0).N,#[.int .i64 0],58,true⟩]
 replace hG:=hF.gx
 clear hF
 refine wq hS hG hK (fun p11=>[.v 55 (pT (p1 0).N 1),.l 56 (.agg #[.slice a n c]) 0 1,.v 57 (.int .i64 (t2:Int)),.c (some 58) (cO W10.heap.size q5),.v 59 (.agg #[.slice (p11 3).A (p11 3).N (p11 3).C]),.v 60 (.int .i64 0),.w (some 61) 2 0 [.int .i64 0] (fun _=>[.int .i64 0]) (cR q5 fun x9=>.agg #[x9]),.c (some 62) (cV (.tuple #[.agg #[.slice none 0 0],.int .i64 4])),.v 63 (.agg #[.slice none 0 0]),.v 64 (.int .i64 4),.w (some 65) 2 0 [.int .i64 4] (fun _=>[.int .i64 4]) (cV (.agg #[.slice none 0 0])),.n 13 #[.slice none 0 0] 26,.p 1011 0 [.slice none 0 0]]) (fun p11=>[(1,pT (p1 0).N 0),(2,pT (p1 1).N 0),(3,.bool false),(4,.int .i64 0),(5,.int .i64 0),(7,.int .i64 (t1:Int)),(8,.int .i64 (t2:Int)),(9,.int .i64 (t3:Int)),(12,pT (p10 0).N 0),(13,pT (p11 11).N 0)]) (fun p11=>?_) (fun p11 W11 T hF hK=>?_)
 ·refine okv ?_
  refine okl ?_
  refine okv ?_
  refine okc (fun W cx=>as_o cx.hb (unhide HP _)) ?_
  iterate 2 refine okv ?_
  refine ok_W (p10 0).N #[.int .i64 0] 58 (fun W cx hW=>as_wr hW (by decide) (Mine.num (cx.F 3 (by kernel_rfl))) (runNat_w ((p10 0).N) 0 58 ((p11 3).A) ((p11 3).N) ((p11 3).C) W hW)) (by kernel_rfl) (by kernel_rfl) (by kernel_rfl) (by kernel_rfl) (by kernel_rfl) rfl (by kernel_rfl) ?_
  refine okc (fun W cx=>as_v (unhide HM _ _ _ c _ _ (p11 6).C (cx.G.2.2.2.2.2.2.1) (cx.F 6 (by kernel_rfl)))) ?_
  iterate 2 refine okv ?_
  refine ok_W (p10 0).N #[.int .i64 0] 58 (fun W cx hW=>as_w (runNat_w ((p10 0).N) 4 58 none 0 0 W hW)) (by kernel_rfl) (by kernel_rfl) (by kernel_rfl) (by kernel_rfl) (by kernel_rfl) rfl (by kernel_rfl) ?_
  refine okn ?_
  refine okp ?_
  exact ok_nil
 replace hS:=SymF.fc hS hF [0,1,2,1011] [⟨(p1 0).N,#[.bool g,.slice a n c,.slice b k l],28,true⟩,⟨(p1 1).N,#[.bool false,.string ⟨#[]⟩,.int .i64 0],23,true⟩,⟨(p10 0).N,#[.int .i64 4],58,true⟩,⟨(p11 11).N,#[.slice none 0 0],26,true⟩]
 replace hG:GsAt (gM W10.heap.size (p11 3).A (p11 3).N (p11 3).C q5 :: gN (p11 6).A (p11 6).N q5 :: _) W11:=⟨hF.fx 3,hF.fx 6,hF.gx⟩
 clear hF
 refine wq hS hG hK (fun p12=>[.l 66 (.agg #[.slice none 0 0]) 3 0,.v 67 (.int .i64 (t3:Int)),.c (some 68) (cO W11.heap.size v),.v 69 (.agg #[.slice (p12 2).A (p12 2).N (p12 2).C]),.v 70 (.int .i64 0),.w (some 71) 2 0 [.int .i64 4] (fun _=>[.int .i64 4]) (cR v fun x9=>.agg #[x9]),.p 3 0 [.slice (p12 5).A (p12 5).N (p12 5).C]]) (fun p12=>[(1,pT (p1 0).N 0),(2,pT (p1 1).N 0),(3,.bool false),(4,.int .i64 0),(5,.int .i64 0),(7,.int .i64 (t1:Int)),(8,.int .i64 (t2:Int)),(9,.int .i64 (t3:Int)),(12,pT (p10 0).N 0),(13,pT (p11 11).N 0)]) (fun p12=>?_) (fun p12 W12 T hF hK=>?_)
 ·refine okl ?_
  refine okv ?_
  refine okc (fun W cx=>as_o cx.hb (unhide HU _ _ _ 0 (num_nil _))) ?_
  iterate 2 refine okv ?_
  refine ok_W (p10 0).N #[.int .i64 4] 58 (fun W cx hW=>as_wr hW (by decide) (Mine.num (cx.F 2 (by kernel_rfl))) (runNat_k ((p10 0).N) 4 0 (by decide) 58 ((p12 2).A) ((p12 2).N) ((p12 2).C) W hW)) (by kernel_rfl) (by kernel_rfl) (by kernel_rfl) (by kernel_rfl) (by kernel_rfl) rfl (by kernel_rfl) ?_
  refine okp ?_
  exact ok_nil
 replace hS:=SymF.fc hS hF [0,1,2,3] [⟨(p1 0).N,#[.bool g,.slice a n c,.slice b k l],28,true⟩,⟨(p1 1).N,#[.bool false,.string ⟨#[]⟩,.int .i64 0],23,true⟩,⟨(p10 0).N,#[.int .i64 4],58,true⟩,⟨(p11 11).N,#[.slice (p12 5).A (p12 5).N (p12 5).C],26,true⟩]
 replace hG:GsAt (gM W11.heap.size (p12 2).A (p12 2).N (p12 2).C v :: gN (p12 5).A (p12 5).N v :: _) W12:=⟨hF.fx 2,hF.fx 5,hF.gx⟩
 clear hF
 refine wp_seq ?_
 refine wq hS hG hK (fun p13=>[.v 72 (pT (p10 0).N 0),.l 73 (.int .i64 4) 2 0,.v 74 (.bool true)]) (fun p13=>[(1,pT (p1 0).N 0),(2,pT (p1 1).N 0),(3,.bool false),(4,.int .i64 0),(5,.int .i64 0),(7,.int .i64 (t1:Int)),(8,.int .i64 (t2:Int)),(9,.int .i64 (t3:Int)),(12,pT (p10 0).N 0),(13,pT (p11 11).N 0),(74,.bool true)]) (fun p13=>?_) (fun p13 W13 T hF hK=>?_)
 ·refine okv ?_
  refine okl ?_
  refine okv ?_
  exact ok_nil
 obtain ⟨hS,hG⟩:=SymF.fg hS hF
 clear hF
 refine wp_cond_true (hK.ew 74) ?_
 refine wq hS hG hK (fun p14=>[.v 75 (.agg #[.bool false,.string ⟨#[]⟩,.int .i64 0]),.v 76 (pT (p10 0).N 0),.l 77 (.int .i64 4) 2 0,.p 1 0 [.bool false,.string ⟨#[]⟩,.int .i64 0],.v 3 (.bool false),.v 4 (.int .i64 4)]) (fun p14=>[(1,pT (p1 0).N 0),(2,pT (p1 1).N 0),(3,.bool false),(4,.int .i64 4),(5,.int .i64 0),(7,.int .i64 (t1:Int)),(8,.int .i64 (t2:Int)),(9,.int .i64 (t3:Int)),(13,pT (p11 11).N 0)]) (fun p14=>?_) (fun p14 W14 T hF hK=>?_)
 ·iterate 2 refine okv ?_
  refine okl ?_
  refine okp ?_
  iterate 2 refine okv ?_
  exact ok_nil
 replace hS:=SymF.fc hS hF [0,1,3] [⟨(p1 0).N,#[.bool g,.slice a n c,.slice b k l],28,true⟩,⟨(p1 1).N,#[.bool false,.string ⟨#[]⟩,.int .i64 0],23,true⟩,⟨(p11 11).N,#[.slice (p12 5).A (p12 5).N (p12 5).C],26,true⟩]
 replace hG:=hF.gx
 clear hF
 refine wp_ret ?_
 refine then_r ?_
 exact sym_end hS hK (.tuple #[.agg #[.bool false,.string ⟨#[]⟩,.int .i64 0],.bool false,.int .i64 4]) [(1,0,3)] [.bool false,.string ⟨#[]⟩,.int .i64 0] (by kernel_rfl) (by kernel_rfl) ⟨rfl,hS.fr⟩
theorem dof_u (w:World) (g:Bool) (a b:Option Addr) (n c k l:Nat) (p d l1 l2 l3 t1 t2 t3 lo:Nat) (lb:Bool) (q5 q:Nat) (h1:Num w a n p) (h2:Num w b k d) (hn:n≠0) (HC:Hid (∀ W:World,Below w.heap.size w W→Calls Tryz.prog 29 #[.agg #[.bool g,.slice a n c,.slice b k l]] W fun e W'=>e = .returned (.int .i64 0)∧Below W.heap.size W W')) (HW1:Hid (∀ (W:World) (a:Option Addr) (n c:Nat) (a':Option Addr) (n' c':Nat),Num W a n d→Num W a' n' 10→Calls Tryz.prog 30 #[.agg #[.slice a n c],.agg #[.slice a' n' c']] W fun en W'=>(∃ A N C,en = .returned (.tuple #[.agg #[.slice A N C],.int .i64 (t1:Int)])∧Num W' A N l1)∧Below W.heap.size W W')) (HW2:Hid (∀ (W:World) (a:Option Addr) (n c:Nat) (a':Option Addr) (n' c':Nat),Num W a n l1→Num W a' n' 2→Calls Tryz.prog 30 #[.agg #[.slice a n c],.agg #[.slice a' n' c']] W fun en W'=>(∃ A N C,en = .returned (.tuple #[.agg #[.slice A N C],.int .i64 (t2:Int)])∧Num W' A N l2)∧Below W.heap.size W W')) (HW3:Hid (∀ (W:World) (a:Option Addr) (n c:Nat) (a':Option Addr) (n' c':Nat),Num W a n l2→Num W a' n' 5→Calls Tryz.prog 30 #[.agg #[.slice a n c],.agg #[.slice a' n' c']] W fun en W'=>(∃ A N C,en = .returned (.tuple #[.agg #[.slice A N C],.int .i64 (t3:Int)])∧Num W' A N l3)∧Below W.heap.size W W')) (HL:Hid (∀ (W:World) (a:Option Addr) (n c:Nat),Num W a n l3→Calls Tryz.prog 22 #[.agg #[.slice a n c]] W fun en W'=>en = .returned (.tuple #[.int .u64 (lo:Int),.bool lb])∧Below W.heap.size W W')) (hlo:lo = 1) (HP:Hid (∀ W:World,Calls Tryz.prog 27 #[.int .u32 5,.int .i64 (t2:Int)] W fun en W'=>(∃ A N C,en = .returned (.tuple #[.agg #[.slice A N C],.int .i64 0])∧Mine W' W.heap.size A N C q5)∧Below W.heap.size W W')) (HM:Hid (∀ (W:World) (a:Option Addr) (n c:Nat) (a':Option Addr) (n' c':Nat),Num W a n p→Num W a' n' q5→Calls Tryz.prog 25 #[.agg #[.slice a n c],.agg #[.slice a' n' c']] W fun en W'=>(∃ A N C,en = .returned (.tuple #[.agg #[.slice A N C],.int .i64 0])∧Mine W' W.heap.size A N C q)∧Below W.heap.size W W')) (HU:Hid (∀ (W:World) (a:Option Addr) (n c:Nat),Num W a n q→Calls Tryz.prog 32 #[.agg #[.slice a n c],.int .i64 (t3:Int)] W fun en W'=>en = .returned (.tuple #[.agg #[.slice none 0 0],.int .i64 4])∧Below W.heap.size W W'))  :
  Calls Tryz.prog 8 #[.agg #[.bool g,.slice a n c,.slice b k l]] w fun en w'=>en = .returned (.tuple #[.agg #[.bool false,.string ⟨#[]⟩,.int .i64 0],.bool false,.int .i64 4])∧Below w.heap.size w w':=by
 refine calls_sym Tryz.func8 rfl (by kernel_rfl) fun T hK=>?_
 replace hK:Kn T _ [(0,.agg #[.bool g,.slice a n c,.slice b k l])]:=hK
 have hS:=Fb.begin w
 have hG:GsAt [gN a n p,gN b k d] w:=⟨h1,h2,trivial⟩
 refine wq hS hG hK (fun p1=>[.n 1 #[.bool g,.slice a n c,.slice b k l] 28,.n 2 #[.bool false,.string ⟨#[]⟩,.int .i64 0] 23,.v 3 (.bool false),.v 4 (.int .i64 0)]) (fun p1=>[(1,pT (p1 0).N 0),(2,pT (p1 1).N 0),(3,.bool false),(4,.int .i64 0)]) (fun p1=>?_) (fun p1 W1 T hF hK=>?_)
 ·iterate 2 refine okn ?_
  iterate 2 refine okv ?_
  exact ok_nil
 replace hS:=SymF.fc hS hF [1000,1001] [⟨(p1 0).N,#[.bool g,.slice a n c,.slice b k l],28,true⟩,⟨(p1 1).N,#[.bool false,.string ⟨#[]⟩,.int .i64 0],23,true⟩]
 replace hG:=hF.gx
 clear hF
 refine wp_seq ?_
 refine wq hS hG hK (fun p2=>[.l 16 (.agg #[.bool g,.slice a n c,.slice b k l]) 0 0,.c (some 17) (cV (.int .i64 0)),.v 5 (.int .i64 0)]) (fun p2=>[(1,pT (p1 0).N 0),(2,pT (p1 1).N 0),(3,.bool false),(4,.int .i64 0),(5,.int .i64 0)]) (fun p2=>?_) (fun p2 W2 T hF hK=>?_)
 ·refine okl ?_
  refine okc (fun W cx=>as_v (unhide HC _ cx.fr)) ?_
  refine okv ?_
  exact ok_nil
 obtain ⟨hS,hG⟩:=SymF.fg hS hF
 clear hF
 refine wq hS hG hK (fun p3=>[.v 18 (.int .i64 0),.v 19 (.bool false)]) (fun p3=>[(1,pT (p1 0).N 0),(2,pT (p1 1).N 0),(3,.bool false),(4,.int .i64 0),(5,.int .i64 0),(19,.bool false)]) (fun p3=>?_) (fun p3 W3 T hF hK=>?_)
 ·iterate 2 refine okv ?_
  exact ok_nil
 obtain ⟨hS,hG⟩:=SymF.fg hS hF
 clear hF
 refine wp_cond_false (hK.ew 19) (wp_skip ?_)
 refine then_n (wp_seq ?_)
 refine wq hS hG hK (fun p4=>[.v 22 (pT (p1 0).N 1),.v 23 (pT (p1 0).N 1),.l 24 (.slice a n c) 0 1,.v 25 (.int .i64 (n:Int)),.v 26 (.bool false)]) (fun p4=>[(1,pT (p1 0).N 0),(2,pT (p1 1).N 0),(3,.bool false),(4,.int .i64 0),(5,.int .i64 0),(26,.bool false)]) (fun p4=>?_) (fun p4 W4 T hF hK=>?_)
 ·iterate 2 refine okv ?_
  refine okl ?_
  refine okv ?_
  refine okvb (beq_false_of_ne (show (n:Int)≠0 by omega)) ?_
  exact ok_nil
 obtain ⟨hS,hG⟩:=SymF.fg hS hF
 clear hF
 refine wp_cond_false (hK.ew 26) (wp_skip (then_n ?_))
 refine wq hS hG hK (fun p5=>[.v 29 (pT (p1 0).N 2),.l 30 (.agg #[.slice b k l]) 0 2,.c (some 31) (cN W4.heap.size 10),.c (some 32) (cR l1 fun x9=>.tuple #[.agg #[x9],.int .i64 (t1:Int)]),.v 28 (.tuple #[.agg #[.slice (p5 3).A (p5 3).N (p5 3).C],.int .i64 (t1:Int)]),.v 33 (.agg #[.slice (p5 3).A (p5 3).N (p5 3).C]),.v 34 (.int .i64 (t1:Int)),.n 6 #[.slice none 0 0] 26,.p 1007 0 [.slice (p5 3).A (p5 3).N (p5 3).C],.v 7 (.int .i64 (t1:Int))]) (fun p5=>[(1,pT (p1 0).N 0),(2,pT (p1 1).N 0),(3,.bool false),(4,.int .i64 0),(5,.int .i64 0),(6,pT (p5 7).N 0),(7,.int .i64 (t1:Int))]) (fun p5=>?_) (fun p5 W5 T hF hK=>?_)
 ·refine okv ?_
  refine okl ?_
  refine okc (fun W cx=>as_n cx.hb (of_any 10 _ (by decide))) ?_
  refine okc (fun W cx=>as_r (unhide HW1 _ _ _ l _ _ (p5 2).C (cx.G.2.1) (Mine.num (cx.F 2 (by kernel_rfl))))) ?_
  iterate 3 refine okv ?_
  refine okn ?_
  refine okp ?_
  refine okv ?_
  exact ok_nil
 replace hS:=SymF.fc hS hF [0,1,1007] [⟨(p1 0).N,#[.bool g,.slice a n c,.slice b k l],28,true⟩,⟨(p1 1).N,#[.bool false,.string ⟨#[]⟩,.int .i64 0],23,true⟩,⟨(p5 7).N,#[.slice (p5 3).A (p5 3).N (p5 3).C],26,true⟩]
 replace hG:GsAt (gM W4.heap.size (p5 2).A (p5 2).N (p5 2).C 10 :: gN (p5 3).A (p5 3).N l1 :: _) W5:=⟨hF.fx 2,hF.fx 3,hF.gx⟩
 clear hF
 refine wq hS hG hK (fun p6=>[.l 36 (.agg #[.slice (p5 3).A (p5 3).N (p5 3).C]) 2 0,.c (some 37) (cN W5.heap.size 2),.c (some 38) (cR l2 fun x9=>.tuple #[.agg #[x9],.int .i64 (t2:Int)]),.v 35 (.tuple #[.agg #[.slice (p6 2).A (p6 2).N (p6 2).C],.int .i64 (t2:Int)]),.v 39 (.agg #[.slice (p6 2).A (p6 2).N (p6 2).C]),.v 40 (.int .i64 (t2:Int)),.p 2 0 [.slice (p6 2).A (p6 2).N (p6 2).C],.v 8 (.int .i64 (t2:Int))]) (fun p6=>[(1,pT (p1 0).N 0),(2,pT (p1 1).N 0),(3,.bool false),(4,.int .i64 0),(5,.int .i64 0),(6,pT (p5 7).N 0),(7,.int .i64 (t1:Int)),(8,.int .i64 (t2:Int))]) (fun p6=>?_) (fun p6 W6 T hF hK=>?_)
 ·refine okl ?_
  refine okc (fun W cx=>as_n cx.hb (of_any 2 _ (by decide))) ?_
  refine okc (fun W cx=>as_r (unhide HW2 _ _ _ (p5 3).C _ _ (p6 1).C (cx.G.2.1) (Mine.num (cx.F 1 (by kernel_rfl))))) ?_
  iterate 3 refine okv ?_
  refine okp ?_
  refine okv ?_
  exact ok_nil
 replace hS:=SymF.fc hS hF [0,1,2] [⟨(p1 0).N,#[.bool g,.slice a n c,.slice b k l],28,true⟩,⟨(p1 1).N,#[.bool false,.string ⟨#[]⟩,.int .i64 0],23,true⟩,⟨(p5 7).N,#[.slice (p6 2).A (p6 2).N (p6 2).C],26,true⟩]
 replace hG:GsAt (gM W5.heap.size (p6 1).A (p6 1).N (p6 1).C 2 :: gN (p6 2).A (p6 2).N l2 :: _) W6:=⟨hF.fx 1,hF.fx 2,hF.gx⟩
 clear hF
 refine wq hS hG hK (fun p7=>[.l 42 (.agg #[.slice (p6 2).A (p6 2).N (p6 2).C]) 2 0,.c (some 43) (cN W6.heap.size 5),.c (some 44) (cR l3 fun x9=>.tuple #[.agg #[x9],.int .i64 (t3:Int)]),.v 41 (.tuple #[.agg #[.slice (p7 2).A (p7 2).N (p7 2).C],.int .i64 (t3:Int)]),.v 45 (.agg #[.slice (p7 2).A (p7 2).N (p7 2).C]),.v 46 (.int .i64 (t3:Int)),.p 2 0 [.slice (p7 2).A (p7 2).N (p7 2).C],.v 9 (.int .i64 (t3:Int))]) (fun p7=>[(1,pT (p1 0).N 0),(2,pT (p1 1).N 0),(3,.bool false),(4,.int .i64 0),(5,.int .i64 0),(6,pT (p5 7).N 0),(7,.int .i64 (t1:Int)),(8,.int .i64 (t2:Int)),(9,.int .i64 (t3:Int))]) (fun p7=>?_) (fun p7 W7 T hF hK=>?_)
 ·refine okl ?_
  refine okc (fun W cx=>as_n cx.hb (of_any 5 _ (by decide))) ?_
  refine okc (fun W cx=>as_r (unhide HW3 _ _ _ (p6 2).C _ _ (p7 1).C (cx.G.2.1) (Mine.num (cx.F 1 (by kernel_rfl))))) ?_
  iterate 3 refine okv ?_
  refine okp ?_
  refine okv ?_
  exact ok_nil
 replace hS:=SymF.fc hS hF [0,1,2] [⟨(p1 0).N,#[.bool g,.slice a n c,.slice b k l],28,true⟩,⟨(p1 1).N,#[.bool false,.string ⟨#[]⟩,.int .i64 0],23,true⟩,⟨(p5 7).N,#[.slice (p7 2).A (p7 2).N (p7 2).C],26,true⟩]
 replace hG:GsAt (gM W6.heap.size (p7 1).A (p7 1).N (p7 1).C 5 :: gN (p7 2).A (p7 2).N l3 :: _) W7:=⟨hF.fx 1,hF.fx 2,hF.gx⟩
 clear hF
 refine wp_seq ?_
 refine wq hS hG hK (fun p8=>[.l 48 (.agg #[.slice (p7 2).A (p7 2).N (p7 2).C]) 2 0,.c (some 49) (cV (.tuple #[.int .u64 (lo:Int),.bool lb])),.v 47 (.tuple #[.int .u64 (lo:Int),.bool lb]),.v 50 (.int .u64 (lo:Int)),.v 51 (.bool lb),.v 10 (.int .u64 (lo:Int)),.v 11 (.bool lb)]) (fun p8=>[(1,pT (p1 0).N 0),(2,pT (p1 1).N 0),(3,.bool false),(4,.int .i64 0),(5,.int .i64 0),(7,.int .i64 (t1:Int)),(8,.int .i64 (t2:Int)),(9,.int .i64 (t3:Int)),(10,.int .u64 (lo:Int))]) (fun p8=>?_) (fun p8 W8 T hF hK=>?_)
 ·refine okl ?_
  refine okc (fun W cx=>as_v (unhide HL _ _ _ (p7 2).C (cx.G.2.1))) ?_
  iterate 5 refine okv ?_
  exact ok_nil
 obtain ⟨hS,hG⟩:=SymF.fg hS hF
 clear hF
 refine wq hS hG hK (fun p9=>[.v 52 (.int .u64 (lo:Int)),.v 53 (.bool false)]) (fun p9=>[(1,pT (p1 0).N 0),(2,pT (p1 1).N 0),(3,.bool false),(4,.int .i64 0),(5,.int .i64 0),(7,.int .i64 (t1:Int)),(8,.int .i64 (t2:Int)),(9,.int .i64 (t3:Int)),(53,.bool false)]) (fun p9=>?_) (fun p9 W9 T hF hK=>?_)
 ·refine okv ?_
  refine okvb (bne_eq_false_iff_eq.2 (show (lo:Int) = 1 by omega)) ?_
  exact ok_nil
 obtain ⟨hS,hG⟩:=SymF.fg hS hF
 clear hF
 refine wp_cond_false (hK.ew 53) (wp_skip (then_n ?_))
 refine wq hS hG hK (fun p10=>[.n 12 #[.int .i64 0] 58]) (fun p10=>[(1,pT (p1 0).N 0),(2,pT (p1 1).N 0),(3,.bool false),(4,.int .i64 0),(5,.int .i64 0),(7,.int .i64 (t1:Int)),(8,.int .i64 (t2:Int)),(9,.int .i64 (t3:Int)),(12,pT (p10 0).N 0)]) (fun p10=>?_) (fun p10 W10 T hF hK=>?_)
 ·refine okn ?_
  exact ok_nil
 replace hS:=SymF.fc hS hF [0,1,1000] [⟨(p1 0).N,#[.bool g,.slice a n c,.slice b k l],28,true⟩,⟨(p1 1).N,#[.bool false,.string ⟨#[]⟩,.int .i64 0],23,true⟩,⟨(p10 0).N,#[.int .i64 0],58,true⟩]
 replace hG:=hF.gx
 clear hF
 refine wq hS hG hK (fun p11=>[.v 55 (pT (p1 0).N 1),.l 56 (.agg #[.slice a n c]) 0 1,.v 57 (.int .i64 (t2:Int)),.c (some 58) (cO W10.heap.size q5),.v 59 (.agg #[.slice (p11 3).A (p11 3).N (p11 3).C]),.v 60 (.int .i64 0),.w (some 61) 2 0 [.int .i64 0] (fun _=>[.int .i64 0]) (cR q5 fun x9=>.agg #[x9]),.c (some 62) (cO W10.heap.size q),.v 63 (.agg #[.slice (p11 7).A (p11 7).N (p11 7).C]),.v 64 (.int .i64 0),.w (some 65) 2 0 [.int .i64 0] (fun _=>[.int .i64 0]) (cR q fun x9=>.agg #[x9]),.n 13 #[.slice none 0 0] 26,.p 1011 0 [.slice (p11 10).A (p11 10).N (p11 10).C]]) (fun p11=>[(1,pT (p1 0).N 0),(2,pT (p1 1).N 0),(3,.bool false),(4,.int .i64 0),(5,.int .i64 0),(7,.int .i64 (t1:Int)),(8,.int .i64 (t2:Int)),(9,.int .i64 (t3:Int)),(12,pT (p10 0).N 0),(13,pT (p11 11).N 0)]) (fun p11=>?_) (fun p11 W11 T hF hK=>?_)
 ·refine okv ?_
  refine okl ?_
  refine okv ?_
  refine okc (fun W cx=>as_o cx.hb (unhide HP _)) ?_
  iterate 2 refine okv ?_
  refine ok_W (p10 0).N #[.int .i64 0] 58 (fun W cx hW=>as_wr hW (by decide) (Mine.num (cx.F 3 (by kernel_rfl))) (runNat_w ((p10 0).N) 0 58 ((p11 3).A) ((p11 3).N) ((p11 3).C) W hW)) (by kernel_rfl) (by kernel_rfl) (by kernel_rfl) (by kernel_rfl) (by kernel_rfl) rfl (by kernel_rfl) ?_
  refine okc (fun W cx=>as_o cx.hb (unhide HM _ _ _ c _ _ (p11 6).C (cx.G.2.2.2.2.2.2.1) (cx.F 6 (by kernel_rfl)))) ?_
  iterate 2 refine okv ?_
  refine ok_W (p10 0).N #[.int .i64 0] 58 (fun W cx hW=>as_wr hW (by decide) (Mine.num (cx.F 7 (by kernel_rfl))) (runNat_w ((p10 0).N) 0 58 ((p11 7).A) ((p11 7).N) ((p11 7).C) W hW)) (by kernel_rfl) (by kernel_rfl) (by kernel_rfl) (by kernel_rfl) (by kernel_rfl) rfl (by kernel_rfl) ?_
  refine okn ?_
  refine okp ?_
  exact ok_nil
 replace hS:=SymF.fc hS hF [0,1,2,1011] [⟨(p1 0).N,#[.bool g,.slice a n c,.slice b k l],28,true⟩,⟨(p1 1).N,#[.bool false,.string ⟨#[]⟩,.int .i64 0],23,true⟩,⟨(p10 0).N,#[.int .i64 0],58,true⟩,⟨(p11 11).N,#[.slice (p11 10).A (p11 10).N (p11 10).C],26,true⟩]
 replace hG:GsAt (gM W10.heap.size (p11 3).A (p11 3).N (p11 3).C q5 :: gN (p11 6).A (p11 6).N q5 :: gM W10.heap.size (p11 7).A (p11 7).N (p11 7).C q :: gN (p11 10).A (p11 10).N q :: _) W11:=⟨hF.fx 3,hF.fx 6,hF.fx 7,hF.fx 10,hF.gx⟩
 clear hF
 refine wq hS hG hK (fun p12=>[.l 66 (.agg #[.slice (p11 10).A (p11 10).N (p11 10).C]) 3 0,.v 67 (.int .i64 (t3:Int)),.c (some 68) (cV (.tuple #[.agg #[.slice none 0 0],.int .i64 4])),.v 69 (.agg #[.slice none 0 0]),.v 70 (.int .i64 4),.w (some 71) 2 0 [.int .i64 4] (fun _=>[.int .i64 4]) (cV (.agg #[.slice none 0 0])),.p 3 0 [.slice none 0 0]]) (fun p12=>[(1,pT (p1 0).N 0),(2,pT (p1 1).N 0),(3,.bool false),(4,.int .i64 0),(5,.int .i64 0),(7,.int .i64 (t1:Int)),(8,.int .i64 (t2:Int)),(9,.int .i64 (t3:Int)),(12,pT (p10 0).N 0),(13,pT (p11 11).N 0)]) (fun p12=>?_) (fun p12 W12 T hF hK=>?_)
 ·refine okl ?_
  refine okv ?_
  refine okc (fun W cx=>as_v (unhide HU _ _ _ (p11 10).C (cx.G.2.2.2.1))) ?_
  iterate 2 refine okv ?_
  refine ok_W (p10 0).N #[.int .i64 0] 58 (fun W cx hW=>as_w (runNat_w ((p10 0).N) 4 58 none 0 0 W hW)) (by kernel_rfl) (by kernel_rfl) (by kernel_rfl) (by kernel_rfl) (by kernel_rfl) rfl (by kernel_rfl) ?_
  refine okp ?_
  exact ok_nil
 replace hS:=SymF.fc hS hF [0,1,2,3] [⟨(p1 0).N,#[.bool g,.slice a n c,.slice b k l],28,true⟩,⟨(p1 1).N,#[.bool false,.string ⟨#[]⟩,.int .i64 0],23,true⟩,⟨(p10 0).N,#[.int .i64 4],58,true⟩,⟨(p11 11).N,#[.slice none 0 0],26,true⟩]
 replace hG:=hF.gx
 clear hF
 refine wp_seq ?_
 refine wq hS hG hK (fun p13=>[.v 72 (pT (p10 0).N 0),.l 73 (.int .i64 4) 2 0,.v 74 (.bool true)]) (fun p13=>[(1,pT (p1 0).N 0),(2,pT (p1 1).N 0),(3,.bool false),(4,.int .i64 0),(5,.int .i64 0),(7,.int .i64 (t1:Int)),(8,.int .i64 (t2:Int)),(9,.int .i64 (t3:Int)),(12,pT (p10 0).N 0),(13,pT (p11 11).N 0),(74,.bool true)]) (fun p13=>?_) (fun p13 W13 T hF hK=>?_)
 ·refine okv ?_
  refine okl ?_
  refine okv ?_
  exact ok_nil
 obtain ⟨hS,hG⟩:=SymF.fg hS hF
 clear hF
 refine wp_cond_true (hK.ew 74) ?_
 refine wq hS hG hK (fun p14=>[.v 75 (.agg #[.bool false,.string ⟨#[]⟩,.int .i64 0]),.v 76 (pT (p10 0).N 0),.l 77 (.int .i64 4) 2 0,.p 1 0 [.bool false,.string ⟨#[]⟩,.int .i64 0],.v 3 (.bool false),.v 4 (.int .i64 4)]) (fun p14=>[(1,pT (p1 0).N 0),(2,pT (p1 1).N 0),(3,.bool false),(4,.int .i64 4),(5,.int .i64 0),(7,.int .i64 (t1:Int)),(8,.int .i64 (t2:Int)),(9,.int .i64 (t3:Int)),(13,pT (p11 11).N 0)]) (fun p14=>?_) (fun p14 W14 T hF hK=>?_)
 ·iterate 2 refine okv ?_
  refine okl ?_
  refine okp ?_
  iterate 2 refine okv ?_
  exact ok_nil
 replace hS:=SymF.fc hS hF [0,1,3] [⟨(p1 0).N,#[.bool g,.slice a n c,.slice b k l],28,true⟩,⟨(p1 1).N,#[.bool false,.string ⟨#[]⟩,.int .i64 0],23,true⟩,⟨(p11 11).N,#[.slice none 0 0],26,true⟩]
 replace hG:=hF.gx
 clear hF
 refine wp_ret ?_
 refine then_r ?_
 exact sym_end hS hK (.tuple #[.agg #[.bool false,.string ⟨#[]⟩,.int .i64 0],.bool false,.int .i64 4]) [(1,0,3)] [.bool false,.string ⟨#[]⟩,.int .i64 0] (by kernel_rfl) (by kernel_rfl) ⟨rfl,hS.fr⟩
theorem dof_ok (w:World) (g:Bool) (a b:Option Addr) (n c k l:Nat) (p d l1 l2 l3 t1 t2 t3 lo:Nat) (lb:Bool) (q5 q v:Nat) (g3:Bool) (s3:ByteArray) (x3:Int) (h1:Num w a n p) (h2:Num w b k d) (hn:n≠0) (HC:Hid (∀ W:World,Below w.heap.size w W→Calls Tryz.prog 29 #[.agg #[.bool g,.slice a n c,.slice b k l]] W fun e W'=>e = .returned (.int .i64 0)∧Below W.heap.size W W')) (HW1:Hid (∀ (W:World) (a:Option Addr) (n c:Nat) (a':Option Addr) (n' c':Nat),Num W a n d→Num W a' n' 10→Calls Tryz.prog 30 #[.agg #[.slice a n c],.agg #[.slice a' n' c']] W fun en W'=>(∃ A N C,en = .returned (.tuple #[.agg #[.slice A N C],.int .i64 (t1:Int)])∧Num W' A N l1)∧Below W.heap.size W W')) (HW2:Hid (∀ (W:World) (a:Option Addr) (n c:Nat) (a':Option Addr) (n' c':Nat),Num W a n l1→Num W a' n' 2→Calls Tryz.prog 30 #[.agg #[.slice a n c],.agg #[.slice a' n' c']] W fun en W'=>(∃ A N C,en = .returned (.tuple #[.agg #[.slice A N C],.int .i64 (t2:Int)])∧Num W' A N l2)∧Below W.heap.size W W')) (HW3:Hid (∀ (W:World) (a:Option Addr) (n c:Nat) (a':Option Addr) (n' c':Nat),Num W a n l2→Num W a' n' 5→Calls Tryz.prog 30 #[.agg #[.slice a n c],.agg #[.slice a' n' c']] W fun en W'=>(∃ A N C,en = .returned (.tuple #[.agg #[.slice A N C],.int .i64 (t3:Int)])∧Num W' A N l3)∧Below W.heap.size W W')) (HL:Hid (∀ (W:World) (a:Option Addr) (n c:Nat),Num W a n l3→Calls Tryz.prog 22 #[.agg #[.slice a n c]] W fun en W'=>en = .returned (.tuple #[.int .u64 (lo:Int),.bool lb])∧Below W.heap.size W W')) (hlo:lo = 1) (HP:Hid (∀ W:World,Calls Tryz.prog 27 #[.int .u32 5,.int .i64 (t2:Int)] W fun en W'=>(∃ A N C,en = .returned (.tuple #[.agg #[.slice A N C],.int .i64 0])∧Mine W' W.heap.size A N C q5)∧Below W.heap.size W W')) (HM:Hid (∀ (W:World) (a:Option Addr) (n c:Nat) (a':Option Addr) (n' c':Nat),Num W a n p→Num W a' n' q5→Calls Tryz.prog 25 #[.agg #[.slice a n c],.agg #[.slice a' n' c']] W fun en W'=>(∃ A N C,en = .returned (.tuple #[.agg #[.slice A N C],.int .i64 0])∧Mine W' W.heap.size A N C q)∧Below W.heap.size W W')) (HU:Hid (∀ (W:World) (a:Option Addr) (n c:Nat),Num W a n q→Calls Tryz.prog 32 #[.agg #[.slice a n c],.int .i64 (t3:Int)] W fun en W'=>(∃ A N C,en = .returned (.tuple #[.agg #[.slice A N C],.int .i64 0])∧Mine W' W.heap.size A N C v)∧Below W.heap.size W W')) (hb:t1≤1048576∧t2≤1048576∧t3≤1048576) (HO:Hid (∀ (W:World) (a:Option Addr) (n c:Nat),Num W a n v→Calls Tryz.prog 33 #[.bool g,.agg #[.slice a n c],.int .i64 (-(t1:Int) - (t2:Int) - (t3:Int))] W fun en W'=>en = .returned (.tuple #[.agg #[.bool g3,.string s3,.int .i64 x3],.int .i64 0])∧Below W.heap.size W W'))  :
  Calls Tryz.prog 8 #[.agg #[.bool g,.slice a n c,.slice b k l]] w fun en w'=>en = .returned (.tuple #[.agg #[.bool g3,.string s3,.int .i64 x3],.bool true,.int .i64 0])∧Below w.heap.size w w':=by
 refine calls_sym Tryz.func8 rfl (by kernel_rfl) fun T hK=>?_
 replace hK:Kn T _ [(0,.agg #[.bool g,.slice a n c,.slice b k l])]:=hK
 have hS:=Fb.begin w
 have hG:GsAt [gN a n p,gN b k d] w:=⟨h1,h2,trivial⟩
 refine wq hS hG hK (fun p1=>[.n 1 #[.bool g,.slice a n c,.slice b k l] 28,.n 2 #[.bool false,.string ⟨#[]⟩,.int .i64 0] 23,.v 3 (.bool false),.v 4 (.int .i64 0)]) (fun p1=>[(1,pT (p1 0).N 0),(2,pT (p1 1).N 0),(3,.bool false),(4,.int .i64 0)]) (fun p1=>?_) (fun p1 W1 T hF hK=>?_)
 ·iterate 2 refine okn ?_
  iterate 2 refine okv ?_
  exact ok_nil
 replace hS:=SymF.fc hS hF [1000,1001] [⟨(p1 0).N,#[.bool g,.slice a n c,.slice b k l],28,true⟩,⟨(p1 1).N,#[.bool false,.string ⟨#[]⟩,.int .i64 0],23,true⟩]
 replace hG:=hF.gx
 clear hF
 refine wp_seq ?_
 refine wq hS hG hK (fun p2=>[.l 16 (.agg #[.bool g,.slice a n c,.slice b k l]) 0 0,.c (some 17) (cV (.int .i64 0)),.v 5 (.int .i64 0)]) (fun p2=>[(1,pT (p1 0).N 0),(2,pT (p1 1).N 0),(3,.bool false),(4,.int .i64 0),(5,.int .i64 0)]) (fun p2=>?_) (fun p2 W2 T hF hK=>?_)
 ·refine okl ?_
  refine okc (fun W cx=>as_v (unhide HC _ cx.fr)) ?_
  refine okv ?_
  exact ok_nil
 obtain ⟨hS,hG⟩:=SymF.fg hS hF
 clear hF
 refine wq hS hG hK (fun p3=>[.v 18 (.int .i64 0),.v 19 (.bool false)]) (fun p3=>[(1,pT (p1 0).N 0),(2,pT (p1 1).N 0),(3,.bool false),(4,.int .i64 0),(5,.int .i64 0),(19,.bool false)]) (fun p3=>?_) (fun p3 W3 T hF hK=>?_)
 ·iterate 2 refine okv ?_
  exact ok_nil
 obtain ⟨hS,hG⟩:=SymF.fg hS hF
 clear hF
 refine wp_cond_false (hK.ew 19) (wp_skip ?_)
 refine then_n (wp_seq ?_)
 refine wq hS hG hK (fun p4=>[.v 22 (pT (p1 0).N 1),.v 23 (pT (p1 0).N 1),.l 24 (.slice a n c) 0 1,.v 25 (.int .i64 (n:Int)),.v 26 (.bool false)]) (fun p4=>[(1,pT (p1 0).N 0),(2,pT (p1 1).N 0),(3,.bool false),(4,.int .i64 0),(5,.int .i64 0),(26,.bool false)]) (fun p4=>?_) (fun p4 W4 T hF hK=>?_)
 ·iterate 2 refine okv ?_
  refine okl ?_
  refine okv ?_
  refine okvb (beq_false_of_ne (show (n:Int)≠0 by omega)) ?_
  exact ok_nil
 obtain ⟨hS,hG⟩:=SymF.fg hS hF
 clear hF
 refine wp_cond_false (hK.ew 26) (wp_skip (then_n ?_))
 refine wq hS hG hK (fun p5=>[.v 29 (pT (p1 0).N 2),.l 30 (.agg #[.slice b k l]) 0 2,.c (some 31) (cN W4.heap.size 10),.c (some 32) (cR l1 fun x9=>.tuple #[.agg #[x9],.int .i64 (t1:Int)]),.v 28 (.tuple #[.agg #[.slice (p5 3).A (p5 3).N (p5 3).C],.int .i64 (t1:Int)]),.v 33 (.agg #[.slice (p5 3).A (p5 3).N (p5 3).C]),.v 34 (.int .i64 (t1:Int)),.n 6 #[.slice none 0 0] 26,.p 1007 0 [.slice (p5 3).A (p5 3).N (p5 3).C],.v 7 (.int .i64 (t1:Int))]) (fun p5=>[(1,pT (p1 0).N 0),(2,pT (p1 1).N 0),(3,.bool false),(4,.int .i64 0),(5,.int .i64 0),(6,pT (p5 7).N 0),(7,.int .i64 (t1:Int))]) (fun p5=>?_) (fun p5 W5 T hF hK=>?_)
 ·refine okv ?_
  refine okl ?_
  refine okc (fun W cx=>as_n cx.hb (of_any 10 _ (by decide))) ?_
  refine okc (fun W cx=>as_r (unhide HW1 _ _ _ l _ _ (p5 2).C (cx.G.2.1) (Mine.num (cx.F 2 (by kernel_rfl))))) ?_
  iterate 3 refine okv ?_
  refine okn ?_
  refine okp ?_
  refine okv ?_
  exact ok_nil
 replace hS:=SymF.fc hS hF [0,1,1007] [⟨(p1 0).N,#[.bool g,.slice a n c,.slice b k l],28,true⟩,⟨(p1 1).N,#[.bool false,.string ⟨#[]⟩,.int .i64 0],23,true⟩,⟨(p5 7).N,#[.slice (p5 3).A (p5 3).N (p5 3).C],26,true⟩]
 replace hG:GsAt (gM W4.heap.size (p5 2).A (p5 2).N (p5 2).C 10 :: gN (p5 3).A (p5 3).N l1 :: _) W5:=⟨hF.fx 2,hF.fx 3,hF.gx⟩
 clear hF
 refine wq hS hG hK (fun p6=>[.l 36 (.agg #[.slice (p5 3).A (p5 3).N (p5 3).C]) 2 0,.c (some 37) (cN W5.heap.size 2),.c (some 38) (cR l2 fun x9=>.tuple #[.agg #[x9],.int .i64 (t2:Int)]),.v 35 (.tuple #[.agg #[.slice (p6 2).A (p6 2).N (p6 2).C],.int .i64 (t2:Int)]),.v 39 (.agg #[.slice (p6 2).A (p6 2).N (p6 2).C]),.v 40 (.int .i64 (t2:Int)),.p 2 0 [.slice (p6 2).A (p6 2).N (p6 2).C],.v 8 (.int .i64 (t2:Int))]) (fun p6=>[(1,pT (p1 0).N 0),(2,pT (p1 1).N 0),(3,.bool false),(4,.int .i64 0),(5,.int .i64 0),(6,pT (p5 7).N 0),(7,.int .i64 (t1:Int)),(8,.int .i64 (t2:Int))]) (fun p6=>?_) (fun p6 W6 T hF hK=>?_)
 ·refine okl ?_
  refine okc (fun W cx=>as_n cx.hb (of_any 2 _ (by decide))) ?_
  refine okc (fun W cx=>as_r (unhide HW2 _ _ _ (p5 3).C _ _ (p6 1).C (cx.G.2.1) (Mine.num (cx.F 1 (by kernel_rfl))))) ?_
  iterate 3 refine okv ?_
  refine okp ?_
  refine okv ?_
  exact ok_nil
 replace hS:=SymF.fc hS hF [0,1,2] [⟨(p1 0).N,#[.bool g,.slice a n c,.slice b k l],28,true⟩,⟨(p1 1).N,#[.bool false,.string ⟨#[]⟩,.int .i64 0],23,true⟩,⟨(p5 7).N,#[.slice (p6 2).A (p6 2).N (p6 2).C],26,true⟩]
 replace hG:GsAt (gM W5.heap.size (p6 1).A (p6 1).N (p6 1).C 2 :: gN (p6 2).A (p6 2).N l2 :: _) W6:=⟨hF.fx 1,hF.fx 2,hF.gx⟩
 clear hF
 refine wq hS hG hK (fun p7=>[.l 42 (.agg #[.slice (p6 2).A (p6 2).N (p6 2).C]) 2 0,.c (some 43) (cN W6.heap.size 5),.c (some 44) (cR l3 fun x9=>.tuple #[.agg #[x9],.int .i64 (t3:Int)]),.v 41 (.tuple #[.agg #[.slice (p7 2).A (p7 2).N (p7 2).C],.int .i64 (t3:Int)]),.v 45 (.agg #[.slice (p7 2).A (p7 2).N (p7 2).C]),.v 46 (.int .i64 (t3:Int)),.p 2 0 [.slice (p7 2).A (p7 2).N (p7 2).C],.v 9 (.int .i64 (t3:Int))]) (fun p7=>[(1,pT (p1 0).N 0),(2,pT (p1 1).N 0),(3,.bool false),(4,.int .i64 0),(5,.int .i64 0),(6,pT (p5 7).N 0),(7,.int .i64 (t1:Int)),(8,.int .i64 (t2:Int)),(9,.int .i64 (t3:Int))]) (fun p7=>?_) (fun p7 W7 T hF hK=>?_)
 ·refine okl ?_
  refine okc (fun W cx=>as_n cx.hb (of_any 5 _ (by decide))) ?_
  refine okc (fun W cx=>as_r (unhide HW3 _ _ _ (p6 2).C _ _ (p7 1).C (cx.G.2.1) (Mine.num (cx.F 1 (by kernel_rfl))))) ?_
  iterate 3 refine okv ?_
  refine okp ?_
  refine okv ?_
  exact ok_nil
 replace hS:=SymF.fc hS hF [0,1,2] [⟨(p1 0).N,#[.bool g,.slice a n c,.slice b k l],28,true⟩,⟨(p1 1).N,#[.bool false,.string ⟨#[]⟩,.int .i64 0],23,true⟩,⟨(p5 7).N,#[.slice (p7 2).A (p7 2).N (p7 2).C],26,true⟩]
 replace hG:GsAt (gM W6.heap.size (p7 1).A (p7 1).N (p7 1).C 5 :: gN (p7 2).A (p7 2).N l3 :: _) W7:=⟨hF.fx 1,hF.fx 2,hF.gx⟩
 clear hF
 refine wp_seq ?_
 refine wq hS hG hK (fun p8=>[.l 48 (.agg #[.slice (p7 2).A (p7 2).N (p7 2).C]) 2 0,.c (some 49) (cV (.tuple #[.int .u64 (lo:Int),.bool lb])),.v 47 (.tuple #[.int .u64 (lo:Int),.bool lb]),.v 50 (.int .u64 (lo:Int)),.v 51 (.bool lb),.v 10 (.int .u64 (lo:Int)),.v 11 (.bool lb)]) (fun p8=>[(1,pT (p1 0).N 0),(2,pT (p1 1).N 0),(3,.bool false),(4,.int .i64 0),(5,.int .i64 0),(7,.int .i64 (t1:Int)),(8,.int .i64 (t2:Int)),(9,.int .i64 (t3:Int)),(10,.int .u64 (lo:Int))]) (fun p8=>?_) (fun p8 W8 T hF hK=>?_)
 ·refine okl ?_
  refine okc (fun W cx=>as_v (unhide HL _ _ _ (p7 2).C (cx.G.2.1))) ?_
  iterate 5 refine okv ?_
  exact ok_nil
 obtain ⟨hS,hG⟩:=SymF.fg hS hF
 clear hF
 refine wq hS hG hK (fun p9=>[.v 52 (.int .u64 (lo:Int)),.v 53 (.bool false)]) (fun p9=>[(1,pT (p1 0).N 0),(2,pT (p1 1).N 0),(3,.bool false),(4,.int .i64 0),(5,.int .i64 0),(7,.int .i64 (t1:Int)),(8,.int .i64 (t2:Int)),(9,.int .i64 (t3:Int)),(53,.bool false)]) (fun p9=>?_) (fun p9 W9 T hF hK=>?_)
 ·refine okv ?_
  refine okvb (bne_eq_false_iff_eq.2 (show (lo:Int) = 1 by omega)) ?_
  exact ok_nil
 obtain ⟨hS,hG⟩:=SymF.fg hS hF
 clear hF
 refine wp_cond_false (hK.ew 53) (wp_skip (then_n ?_))
 refine wq hS hG hK (fun p10=>[.n 12 #[.int .i64 0] 58]) (fun p10=>[(1,pT (p1 0).N 0),(2,pT (p1 1).N 0),(3,.bool false),(4,.int .i64 0),(5,.int .i64 0),(7,.int .i64 (t1:Int)),(8,.int .i64 (t2:Int)),(9,.int .i64 (t3:Int)),(12,pT (p10 0).N 0)]) (fun p10=>?_) (fun p10 W10 T hF hK=>?_)
 ·refine okn ?_
  exact ok_nil
 replace hS:=SymF.fc hS hF [0,1,1000] [⟨(p1 0).N,#[.bool g,.slice a n c,.slice b k l],28,true⟩,⟨(p1 1).N,#[.bool false,.string ⟨#[]⟩,.int .i64 0],23,true⟩,⟨(p10 0).N,#[.int .i64 0],58,true⟩]
 replace hG:=hF.gx
 clear hF
 refine wq hS hG hK (fun p11=>[.v 55 (pT (p1 0).N 1),.l 56 (.agg #[.slice a n c]) 0 1,.v 57 (.int .i64 (t2:Int)),.c (some 58) (cO W10.heap.size q5),.v 59 (.agg #[.slice (p11 3).A (p11 3).N (p11 3).C]),.v 60 (.int .i64 0),.w (some 61) 2 0 [.int .i64 0] (fun _=>[.int .i64 0]) (cR q5 fun x9=>.agg #[x9]),.c (some 62) (cO W10.heap.size q),.v 63 (.agg #[.slice (p11 7).A (p11 7).N (p11 7).C]),.v 64 (.int .i64 0),.w (some 65) 2 0 [.int .i64 0] (fun _=>[.int .i64 0]) (cR q fun x9=>.agg #[x9]),.n 13 #[.slice none 0 0] 26,.p 1011 0 [.slice (p11 10).A (p11 10).N (p11 10).C]]) (fun p11=>[(1,pT (p1 0).N 0),(2,pT (p1 1).N 0),(3,.bool false),(4,.int .i64 0),(5,.int .i64 0),(7,.int .i64 (t1:Int)),(8,.int .i64 (t2:Int)),(9,.int .i64 (t3:Int)),(12,pT (p10 0).N 0),(13,pT (p11 11).N 0)]) (fun p11=>?_) (fun p11 W11 T hF hK=>?_)
 ·refine okv ?_
  refine okl ?_
  refine okv ?_
  refine okc (fun W cx=>as_o cx.hb (unhide HP _)) ?_
  iterate 2 refine okv ?_
  refine ok_W (p10 0).N #[.int .i64 0] 58 (fun W cx hW=>as_wr hW (by decide) (Mine.num (cx.F 3 (by kernel_rfl))) (runNat_w ((p10 0).N) 0 58 ((p11 3).A) ((p11 3).N) ((p11 3).C) W hW)) (by kernel_rfl) (by kernel_rfl) (by kernel_rfl) (by kernel_rfl) (by kernel_rfl) rfl (by kernel_rfl) ?_
  refine okc (fun W cx=>as_o cx.hb (unhide HM _ _ _ c _ _ (p11 6).C (cx.G.2.2.2.2.2.2.1) (cx.F 6 (by kernel_rfl)))) ?_
  iterate 2 refine okv ?_
  refine ok_W (p10 0).N #[.int .i64 0] 58 (fun W cx hW=>as_wr hW (by decide) (Mine.num (cx.F 7 (by kernel_rfl))) (runNat_w ((p10 0).N) 0 58 ((p11 7).A) ((p11 7).N) ((p11 7).C) W hW)) (by kernel_rfl) (by kernel_rfl) (by kernel_rfl) (by kernel_rfl) (by kernel_rfl) rfl (by kernel_rfl) ?_
  refine okn ?_
  refine okp ?_
  exact ok_nil
 replace hS:=SymF.fc hS hF [0,1,2,1011] [⟨(p1 0).N,#[.bool g,.slice a n c,.slice b k l],28,true⟩,⟨(p1 1).N,#[.bool false,.string ⟨#[]⟩,.int .i64 0],23,true⟩,⟨(p10 0).N,#[.int .i64 0],58,true⟩,⟨(p11 11).N,#[.slice (p11 10).A (p11 10).N (p11 10).C],26,true⟩]
 replace hG:GsAt (gM W10.heap.size (p11 3).A (p11 3).N (p11 3).C q5 :: gN (p11 6).A (p11 6).N q5 :: gM W10.heap.size (p11 7).A (p11 7).N (p11 7).C q :: gN (p11 10).A (p11 10).N q :: _) W11:=⟨hF.fx 3,hF.fx 6,hF.fx 7,hF.fx 10,hF.gx⟩
 clear hF
 refine wq hS hG hK (fun p12=>[.l 66 (.agg #[.slice (p11 10).A (p11 10).N (p11 10).C]) 3 0,.v 67 (.int .i64 (t3:Int)),.c (some 68) (cO W11.heap.size v),.v 69 (.agg #[.slice (p12 2).A (p12 2).N (p12 2).C]),.v 70 (.int .i64 0),.w (some 71) 2 0 [.int .i64 0] (fun _=>[.int .i64 0]) (cR v fun x9=>.agg #[x9]),.p 3 0 [.slice (p12 5).A (p12 5).N (p12 5).C]]) (fun p12=>[(1,pT (p1 0).N 0),(2,pT (p1 1).N 0),(3,.bool false),(4,.int .i64 0),(5,.int .i64 0),(7,.int .i64 (t1:Int)),(8,.int .i64 (t2:Int)),(9,.int .i64 (t3:Int)),(12,pT (p10 0).N 0),(13,pT (p11 11).N 0)]) (fun p12=>?_) (fun p12 W12 T hF hK=>?_)
 ·refine okl ?_
  refine okv ?_
  refine okc (fun W cx=>as_o cx.hb (unhide HU _ _ _ (p11 10).C (cx.G.2.2.2.1))) ?_
  iterate 2 refine okv ?_
  refine ok_W (p10 0).N #[.int .i64 0] 58 (fun W cx hW=>as_wr hW (by decide) (Mine.num (cx.F 2 (by kernel_rfl))) (runNat_w ((p10 0).N) 0 58 ((p12 2).A) ((p12 2).N) ((p12 2).C) W hW)) (by kernel_rfl) (by kernel_rfl) (by kernel_rfl) (by kernel_rfl) (by kernel_rfl) rfl (by kernel_rfl) ?_
  refine okp ?_
  exact ok_nil
 replace hS:=SymF.fc hS hF [0,1,2,3] [⟨(p1 0).N,#[.bool g,.slice a n c,.slice b k l],28,true⟩,⟨(p1 1).N,#[.bool false,.string ⟨#[]⟩,.int .i64 0],23,true⟩,⟨(p10 0).N,#[.int .i64 0],58,true⟩,⟨(p11 11).N,#[.slice (p12 5).A (p12 5).N (p12 5).C],26,true⟩]
 replace hG:GsAt (gM W11.heap.size (p12 2).A (p12 2).N (p12 2).C v :: gN (p12 5).A (p12 5).N v :: _) W12:=⟨hF.fx 2,hF.fx 5,hF.gx⟩
 clear hF
 refine wp_seq ?_
 refine wq hS hG hK (fun p13=>[.v 72 (pT (p10 0).N 0),.l 73 (.int .i64 0) 2 0,.v 74 (.bool false)]) (fun p13=>[(1,pT (p1 0).N 0),(2,pT (p1 1).N 0),(3,.bool false),(4,.int .i64 0),(5,.int .i64 0),(7,.int .i64 (t1:Int)),(8,.int .i64 (t2:Int)),(9,.int .i64 (t3:Int)),(12,pT (p10 0).N 0),(13,pT (p11 11).N 0),(74,.bool false)]) (fun p13=>?_) (fun p13 W13 T hF hK=>?_)
 ·refine okv ?_
  refine okl ?_
  refine okv ?_
  exact ok_nil
 obtain ⟨hS,hG⟩:=SymF.fg hS hF
 clear hF
 refine wp_cond_false (hK.ew 74) (wp_skip (then_n ?_))
 refine wq hS hG hK (fun p14=>[.v 79 (pT (p1 0).N 0),.l 80 (.bool g) 0 0,.l 81 (.agg #[.slice (p12 5).A (p12 5).N (p12 5).C]) 3 0,.v 82 (.int .i64 (t1:Int)),.v 83 (.int .i64 (-(t1:Int))),.v 84 (.int .i64 (t2:Int)),.v 85 (.int .i64 (-(t1:Int) - (t2:Int))),.v 86 (.int .i64 (t3:Int)),.v 87 (.int .i64 (-(t1:Int) - (t2:Int) - (t3:Int))),.c (some 88) (cV (.tuple #[.agg #[.bool g3,.string s3,.int .i64 x3],.int .i64 0])),.v 78 (.tuple #[.agg #[.bool g3,.string s3,.int .i64 x3],.int .i64 0]),.v 89 (.agg #[.bool g3,.string s3,.int .i64 x3]),.v 90 (.int .i64 0),.n 14 #[.bool false,.string ⟨#[]⟩,.int .i64 0] 23,.p 1013 0 [.bool g3,.string s3,.int .i64 x3],.v 15 (.int .i64 0)]) (fun p14=>[(2,pT (p1 1).N 0),(3,.bool false),(4,.int .i64 0),(5,.int .i64 0),(12,pT (p10 0).N 0),(14,pT (p14 13).N 0),(15,.int .i64 0)]) (fun p14=>?_) (fun p14 W14 T hF hK=>?_)
 ·refine okv ?_
  iterate 2 refine okl ?_
  refine okv ?_
  refine okvi ((wr64 (x:=0 - (t1:Int)) (by omega) (by omega)).trans (by omega)) ?_
  refine okv ?_
  refine okvi (wr64 (x:=-(t1:Int) - (t2:Int)) (by omega) (by omega)) ?_
  refine okv ?_
  refine okvi (wr64 (x:=(-(t1:Int) - (t2:Int) - (t3:Int))) (by omega) (by omega)) ?_
  refine okc (fun W cx=>as_v (unhide HO _ _ _ (p12 5).C (cx.G.2.1))) ?_
  iterate 3 refine okv ?_
  refine okn ?_
  refine okp ?_
  refine okv ?_
  exact ok_nil
 replace hS:=SymF.fc hS hF [1,2,1013] [⟨(p1 1).N,#[.bool false,.string ⟨#[]⟩,.int .i64 0],23,true⟩,⟨(p10 0).N,#[.int .i64 0],58,true⟩,⟨(p14 13).N,#[.bool g3,.string s3,.int .i64 x3],23,true⟩]
 replace hG:=hF.gx
 clear hF
 refine wq hS hG hK (fun p15=>[.l 91 (.agg #[.bool g3,.string s3,.int .i64 x3]) 2 0,.v 92 (.int .i64 0),.v 93 (.bool true),.v 94 (.int .i64 0),.p 0 0 [.bool g3,.string s3,.int .i64 x3],.v 3 (.bool true),.v 4 (.int .i64 0)]) (fun p15=>[(2,pT (p1 1).N 0),(3,.bool true),(4,.int .i64 0),(5,.int .i64 0),(12,pT (p10 0).N 0)]) (fun p15=>?_) (fun p15 W15 T hF hK=>?_)
 ·refine okl ?_
  iterate 3 refine okv ?_
  refine okp ?_
  iterate 2 refine okv ?_
  exact ok_nil
 replace hS:=SymF.fc hS hF [0,1] [⟨(p1 1).N,#[.bool g3,.string s3,.int .i64 x3],23,true⟩,⟨(p10 0).N,#[.int .i64 0],58,true⟩]
 replace hG:=hF.gx
 clear hF
 refine wp_ret ?_
 exact sym_end hS hK (.tuple #[.agg #[.bool g3,.string s3,.int .i64 x3],.bool true,.int .i64 0]) [(0,0,3)] [.bool g3,.string s3,.int .i64 x3] (by kernel_rfl) (by kernel_rfl) ⟨rfl,hS.fr⟩
theorem dof_b (w:World) (g:Bool) (a b:Option Addr) (n c k l:Nat) (p d l1 l2 l3 t1 t2 t3 lo:Nat) (lb:Bool) (q5 q v:Nat) (h1:Num w a n p) (h2:Num w b k d) (hn:n≠0) (HC:Hid (∀ W:World,Below w.heap.size w W→Calls Tryz.prog 29 #[.agg #[.bool g,.slice a n c,.slice b k l]] W fun e W'=>e = .returned (.int .i64 0)∧Below W.heap.size W W')) (HW1:Hid (∀ (W:World) (a:Option Addr) (n c:Nat) (a':Option Addr) (n' c':Nat),Num W a n d→Num W a' n' 10→Calls Tryz.prog 30 #[.agg #[.slice a n c],.agg #[.slice a' n' c']] W fun en W'=>(∃ A N C,en = .returned (.tuple #[.agg #[.slice A N C],.int .i64 (t1:Int)])∧Num W' A N l1)∧Below W.heap.size W W')) (HW2:Hid (∀ (W:World) (a:Option Addr) (n c:Nat) (a':Option Addr) (n' c':Nat),Num W a n l1→Num W a' n' 2→Calls Tryz.prog 30 #[.agg #[.slice a n c],.agg #[.slice a' n' c']] W fun en W'=>(∃ A N C,en = .returned (.tuple #[.agg #[.slice A N C],.int .i64 (t2:Int)])∧Num W' A N l2)∧Below W.heap.size W W')) (HW3:Hid (∀ (W:World) (a:Option Addr) (n c:Nat) (a':Option Addr) (n' c':Nat),Num W a n l2→Num W a' n' 5→Calls Tryz.prog 30 #[.agg #[.slice a n c],.agg #[.slice a' n' c']] W fun en W'=>(∃ A N C,en = .returned (.tuple #[.agg #[.slice A N C],.int .i64 (t3:Int)])∧Num W' A N l3)∧Below W.heap.size W W')) (HL:Hid (∀ (W:World) (a:Option Addr) (n c:Nat),Num W a n l3→Calls Tryz.prog 22 #[.agg #[.slice a n c]] W fun en W'=>en = .returned (.tuple #[.int .u64 (lo:Int),.bool lb])∧Below W.heap.size W W')) (hlo:lo = 1) (HP:Hid (∀ W:World,Calls Tryz.prog 27 #[.int .u32 5,.int .i64 (t2:Int)] W fun en W'=>(∃ A N C,en = .returned (.tuple #[.agg #[.slice A N C],.int .i64 0])∧Mine W' W.heap.size A N C q5)∧Below W.heap.size W W')) (HM:Hid (∀ (W:World) (a:Option Addr) (n c:Nat) (a':Option Addr) (n' c':Nat),Num W a n p→Num W a' n' q5→Calls Tryz.prog 25 #[.agg #[.slice a n c],.agg #[.slice a' n' c']] W fun en W'=>(∃ A N C,en = .returned (.tuple #[.agg #[.slice A N C],.int .i64 0])∧Mine W' W.heap.size A N C q)∧Below W.heap.size W W')) (HU:Hid (∀ (W:World) (a:Option Addr) (n c:Nat),Num W a n q→Calls Tryz.prog 32 #[.agg #[.slice a n c],.int .i64 (t3:Int)] W fun en W'=>(∃ A N C,en = .returned (.tuple #[.agg #[.slice A N C],.int .i64 0])∧Mine W' W.heap.size A N C v)∧Below W.heap.size W W')) (hb:t1≤1048576∧t2≤1048576∧t3≤1048576) (HO:Hid (∀ (W:World) (a:Option Addr) (n c:Nat),Num W a n v→Calls Tryz.prog 33 #[.bool g,.agg #[.slice a n c],.int .i64 (-(t1:Int) - (t2:Int) - (t3:Int))] W fun en W'=>en = .returned (.tuple #[.agg #[.bool false,.string ⟨#[]⟩,.int .i64 0],.int .i64 4])∧Below W.heap.size W W'))  :
  Calls Tryz.prog 8 #[.agg #[.bool g,.slice a n c,.slice b k l]] w fun en w'=>en = .returned (.tuple #[.agg #[.bool false,.string ⟨#[]⟩,.int .i64 0],.bool false,.int .i64 4])∧Below w.heap.size w w':=by
 refine calls_sym Tryz.func8 rfl (by kernel_rfl) fun T hK=>?_
 replace hK:Kn T _ [(0,.agg #[.bool g,.slice a n c,.slice b k l])]:=hK
 have hS:=Fb.begin w
 have hG:GsAt [gN a n p,gN b k d] w:=⟨h1,h2,trivial⟩
 refine wq hS hG hK (fun p1=>[.n 1 #[.bool g,.slice a n c,.slice b k l] 28,.n 2 #[.bool false,.string ⟨#[]⟩,.int .i64 0] 23,.v 3 (.bool false),.v 4 (.int .i64 0)]) (fun p1=>[(1,pT (p1 0).N 0),(2,pT (p1 1).N 0),(3,.bool false),(4,.int .i64 0)]) (fun p1=>?_) (fun p1 W1 T hF hK=>?_)
 ·iterate 2 refine okn ?_
  iterate 2 refine okv ?_
  exact ok_nil
 replace hS:=SymF.fc hS hF [1000,1001] [⟨(p1 0).N,#[.bool g,.slice a n c,.slice b k l],28,true⟩,⟨(p1 1).N,#[.bool false,.string ⟨#[]⟩,.int .i64 0],23,true⟩]
 replace hG:=hF.gx
 clear hF
 refine wp_seq ?_
 refine wq hS hG hK (fun p2=>[.l 16 (.agg #[.bool g,.slice a n c,.slice b k l]) 0 0,.c (some 17) (cV (.int .i64 0)),.v 5 (.int .i64 0)]) (fun p2=>[(1,pT (p1 0).N 0),(2,pT (p1 1).N 0),(3,.bool false),(4,.int .i64 0),(5,.int .i64 0)]) (fun p2=>?_) (fun p2 W2 T hF hK=>?_)
 ·refine okl ?_
  refine okc (fun W cx=>as_v (unhide HC _ cx.fr)) ?_
  refine okv ?_
  exact ok_nil
 obtain ⟨hS,hG⟩:=SymF.fg hS hF
 clear hF
 refine wq hS hG hK (fun p3=>[.v 18 (.int .i64 0),.v 19 (.bool false)]) (fun p3=>[(1,pT (p1 0).N 0),(2,pT (p1 1).N 0),(3,.bool false),(4,.int .i64 0),(5,.int .i64 0),(19,.bool false)]) (fun p3=>?_) (fun p3 W3 T hF hK=>?_)
 ·iterate 2 refine okv ?_
  exact ok_nil
 obtain ⟨hS,hG⟩:=SymF.fg hS hF
 clear hF
 refine wp_cond_false (hK.ew 19) (wp_skip ?_)
 refine then_n (wp_seq ?_)
 refine wq hS hG hK (fun p4=>[.v 22 (pT (p1 0).N 1),.v 23 (pT (p1 0).N 1),.l 24 (.slice a n c) 0 1,.v 25 (.int .i64 (n:Int)),.v 26 (.bool false)]) (fun p4=>[(1,pT (p1 0).N 0),(2,pT (p1 1).N 0),(3,.bool false),(4,.int .i64 0),(5,.int .i64 0),(26,.bool false)]) (fun p4=>?_) (fun p4 W4 T hF hK=>?_)
 ·iterate 2 refine okv ?_
  refine okl ?_
  refine okv ?_
  refine okvb (beq_false_of_ne (show (n:Int)≠0 by omega)) ?_
  exact ok_nil
 obtain ⟨hS,hG⟩:=SymF.fg hS hF
 clear hF
 refine wp_cond_false (hK.ew 26) (wp_skip (then_n ?_))
 refine wq hS hG hK (fun p5=>[.v 29 (pT (p1 0).N 2),.l 30 (.agg #[.slice b k l]) 0 2,.c (some 31) (cN W4.heap.size 10),.c (some 32) (cR l1 fun x9=>.tuple #[.agg #[x9],.int .i64 (t1:Int)]),.v 28 (.tuple #[.agg #[.slice (p5 3).A (p5 3).N (p5 3).C],.int .i64 (t1:Int)]),.v 33 (.agg #[.slice (p5 3).A (p5 3).N (p5 3).C]),.v 34 (.int .i64 (t1:Int)),.n 6 #[.slice none 0 0] 26,.p 1007 0 [.slice (p5 3).A (p5 3).N (p5 3).C],.v 7 (.int .i64 (t1:Int))]) (fun p5=>[(1,pT (p1 0).N 0),(2,pT (p1 1).N 0),(3,.bool false),(4,.int .i64 0),(5,.int .i64 0),(6,pT (p5 7).N 0),(7,.int .i64 (t1:Int))]) (fun p5=>?_) (fun p5 W5 T hF hK=>?_)
 ·refine okv ?_
  refine okl ?_
  refine okc (fun W cx=>as_n cx.hb (of_any 10 _ (by decide))) ?_
  refine okc (fun W cx=>as_r (unhide HW1 _ _ _ l _ _ (p5 2).C (cx.G.2.1) (Mine.num (cx.F 2 (by kernel_rfl))))) ?_
  iterate 3 refine okv ?_
  refine okn ?_
  refine okp ?_
  refine okv ?_
  exact ok_nil
 replace hS:=SymF.fc hS hF [0,1,1007] [⟨(p1 0).N,#[.bool g,.slice a n c,.slice b k l],28,true⟩,⟨(p1 1).N,#[.bool false,.string ⟨#[]⟩,.int .i64 0],23,true⟩,⟨(p5 7).N,#[.slice (p5 3).A (p5 3).N (p5 3).C],26,true⟩]
 replace hG:GsAt (gM W4.heap.size (p5 2).A (p5 2).N (p5 2).C 10 :: gN (p5 3).A (p5 3).N l1 :: _) W5:=⟨hF.fx 2,hF.fx 3,hF.gx⟩
 clear hF
 refine wq hS hG hK (fun p6=>[.l 36 (.agg #[.slice (p5 3).A (p5 3).N (p5 3).C]) 2 0,.c (some 37) (cN W5.heap.size 2),.c (some 38) (cR l2 fun x9=>.tuple #[.agg #[x9],.int .i64 (t2:Int)]),.v 35 (.tuple #[.agg #[.slice (p6 2).A (p6 2).N (p6 2).C],.int .i64 (t2:Int)]),.v 39 (.agg #[.slice (p6 2).A (p6 2).N (p6 2).C]),.v 40 (.int .i64 (t2:Int)),.p 2 0 [.slice (p6 2).A (p6 2).N (p6 2).C],.v 8 (.int .i64 (t2:Int))]) (fun p6=>[(1,pT (p1 0).N 0),(2,pT (p1 1).N 0),(3,.bool false),(4,.int .i64 0),(5,.int .i64 0),(6,pT (p5 7).N 0),(7,.int .i64 (t1:Int)),(8,.int .i64 (t2:Int))]) (fun p6=>?_) (fun p6 W6 T hF hK=>?_)
 ·refine okl ?_
  refine okc (fun W cx=>as_n cx.hb (of_any 2 _ (by decide))) ?_
  refine okc (fun W cx=>as_r (unhide HW2 _ _ _ (p5 3).C _ _ (p6 1).C (cx.G.2.1) (Mine.num (cx.F 1 (by kernel_rfl))))) ?_
  iterate 3 refine okv ?_
  refine okp ?_
  refine okv ?_
  exact ok_nil
 replace hS:=SymF.fc hS hF [0,1,2] [⟨(p1 0).N,#[.bool g,.slice a n c,.slice b k l],28,true⟩,⟨(p1 1).N,#[.bool false,.string ⟨#[]⟩,.int .i64 0],23,true⟩,⟨(p5 7).N,#[.slice (p6 2).A (p6 2).N (p6 2).C],26,true⟩]
 replace hG:GsAt (gM W5.heap.size (p6 1).A (p6 1).N (p6 1).C 2 :: gN (p6 2).A (p6 2).N l2 :: _) W6:=⟨hF.fx 1,hF.fx 2,hF.gx⟩
 clear hF
 refine wq hS hG hK (fun p7=>[.l 42 (.agg #[.slice (p6 2).A (p6 2).N (p6 2).C]) 2 0,.c (some 43) (cN W6.heap.size 5),.c (some 44) (cR l3 fun x9=>.tuple #[.agg #[x9],.int .i64 (t3:Int)]),.v 41 (.tuple #[.agg #[.slice (p7 2).A (p7 2).N (p7 2).C],.int .i64 (t3:Int)]),.v 45 (.agg #[.slice (p7 2).A (p7 2).N (p7 2).C]),.v 46 (.int .i64 (t3:Int)),.p 2 0 [.slice (p7 2).A (p7 2).N (p7 2).C],.v 9 (.int .i64 (t3:Int))]) (fun p7=>[(1,pT (p1 0).N 0),(2,pT (p1 1).N 0),(3,.bool false),(4,.int .i64 0),(5,.int .i64 0),(6,pT (p5 7).N 0),(7,.int .i64 (t1:Int)),(8,.int .i64 (t2:Int)),(9,.int .i64 (t3:Int))]) (fun p7=>?_) (fun p7 W7 T hF hK=>?_)
 ·refine okl ?_
  refine okc (fun W cx=>as_n cx.hb (of_any 5 _ (by decide))) ?_
  refine okc (fun W cx=>as_r (unhide HW3 _ _ _ (p6 2).C _ _ (p7 1).C (cx.G.2.1) (Mine.num (cx.F 1 (by kernel_rfl))))) ?_
  iterate 3 refine okv ?_
  refine okp ?_
  refine okv ?_
  exact ok_nil
 replace hS:=SymF.fc hS hF [0,1,2] [⟨(p1 0).N,#[.bool g,.slice a n c,.slice b k l],28,true⟩,⟨(p1 1).N,#[.bool false,.string ⟨#[]⟩,.int .i64 0],23,true⟩,⟨(p5 7).N,#[.slice (p7 2).A (p7 2).N (p7 2).C],26,true⟩]
 replace hG:GsAt (gM W6.heap.size (p7 1).A (p7 1).N (p7 1).C 5 :: gN (p7 2).A (p7 2).N l3 :: _) W7:=⟨hF.fx 1,hF.fx 2,hF.gx⟩
 clear hF
 refine wp_seq ?_
 refine wq hS hG hK (fun p8=>[.l 48 (.agg #[.slice (p7 2).A (p7 2).N (p7 2).C]) 2 0,.c (some 49) (cV (.tuple #[.int .u64 (lo:Int),.bool lb])),.v 47 (.tuple #[.int .u64 (lo:Int),.bool lb]),.v 50 (.int .u64 (lo:Int)),.v 51 (.bool lb),.v 10 (.int .u64 (lo:Int)),.v 11 (.bool lb)]) (fun p8=>[(1,pT (p1 0).N 0),(2,pT (p1 1).N 0),(3,.bool false),(4,.int .i64 0),(5,.int .i64 0),(7,.int .i64 (t1:Int)),(8,.int .i64 (t2:Int)),(9,.int .i64 (t3:Int)),(10,.int .u64 (lo:Int))]) (fun p8=>?_) (fun p8 W8 T hF hK=>?_)
 ·refine okl ?_
  refine okc (fun W cx=>as_v (unhide HL _ _ _ (p7 2).C (cx.G.2.1))) ?_
  iterate 5 refine okv ?_
  exact ok_nil
 obtain ⟨hS,hG⟩:=SymF.fg hS hF
 clear hF
 refine wq hS hG hK (fun p9=>[.v 52 (.int .u64 (lo:Int)),.v 53 (.bool false)]) (fun p9=>[(1,pT (p1 0).N 0),(2,pT (p1 1).N 0),(3,.bool false),(4,.int .i64 0),(5,.int .i64 0),(7,.int .i64 (t1:Int)),(8,.int .i64 (t2:Int)),(9,.int .i64 (t3:Int)),(53,.bool false)]) (fun p9=>?_) (fun p9 W9 T hF hK=>?_)
 ·refine okv ?_
  refine okvb (bne_eq_false_iff_eq.2 (show (lo:Int) = 1 by omega)) ?_
  exact ok_nil
 obtain ⟨hS,hG⟩:=SymF.fg hS hF
 clear hF
 refine wp_cond_false (hK.ew 53) (wp_skip (then_n ?_))
 refine wq hS hG hK (fun p10=>[.n 12 #[.int .i64 0] 58]) (fun p10=>[(1,pT (p1 0).N 0),(2,pT (p1 1).N 0),(3,.bool false),(4,.int .i64 0),(5,.int .i64 0),(7,.int .i64 (t1:Int)),(8,.int .i64 (t2:Int)),(9,.int .i64 (t3:Int)),(12,pT (p10 0).N 0)]) (fun p10=>?_) (fun p10 W10 T hF hK=>?_)
 ·refine okn ?_
  exact ok_nil
 replace hS:=SymF.fc hS hF [0,1,1000] [⟨(p1 0).N,#[.bool g,.slice a n c,.slice b k l],28,true⟩,⟨(p1 1).N,#[.bool false,.string ⟨#[]⟩,.int .i64 0],23,true⟩,⟨(p10 0).N,#[.int .i64 0],58,true⟩]
 replace hG:=hF.gx
 clear hF
 refine wq hS hG hK (fun p11=>[.v 55 (pT (p1 0).N 1),.l 56 (.agg #[.slice a n c]) 0 1,.v 57 (.int .i64 (t2:Int)),.c (some 58) (cO W10.heap.size q5),.v 59 (.agg #[.slice (p11 3).A (p11 3).N (p11 3).C]),.v 60 (.int .i64 0),.w (some 61) 2 0 [.int .i64 0] (fun _=>[.int .i64 0]) (cR q5 fun x9=>.agg #[x9]),.c (some 62) (cO W10.heap.size q),.v 63 (.agg #[.slice (p11 7).A (p11 7).N (p11 7).C]),.v 64 (.int .i64 0),.w (some 65) 2 0 [.int .i64 0] (fun _=>[.int .i64 0]) (cR q fun x9=>.agg #[x9]),.n 13 #[.slice none 0 0] 26,.p 1011 0 [.slice (p11 10).A (p11 10).N (p11 10).C]]) (fun p11=>[(1,pT (p1 0).N 0),(2,pT (p1 1).N 0),(3,.bool false),(4,.int .i64 0),(5,.int .i64 0),(7,.int .i64 (t1:Int)),(8,.int .i64 (t2:Int)),(9,.int .i64 (t3:Int)),(12,pT (p10 0).N 0),(13,pT (p11 11).N 0)]) (fun p11=>?_) (fun p11 W11 T hF hK=>?_)
 ·refine okv ?_
  refine okl ?_
  refine okv ?_
  refine okc (fun W cx=>as_o cx.hb (unhide HP _)) ?_
  iterate 2 refine okv ?_
  refine ok_W (p10 0).N #[.int .i64 0] 58 (fun W cx hW=>as_wr hW (by decide) (Mine.num (cx.F 3 (by kernel_rfl))) (runNat_w ((p10 0).N) 0 58 ((p11 3).A) ((p11 3).N) ((p11 3).C) W hW)) (by kernel_rfl) (by kernel_rfl) (by kernel_rfl) (by kernel_rfl) (by kernel_rfl) rfl (by kernel_rfl) ?_
  refine okc (fun W cx=>as_o cx.hb (unhide HM _ _ _ c _ _ (p11 6).C (cx.G.2.2.2.2.2.2.1) (cx.F 6 (by kernel_rfl)))) ?_
  iterate 2 refine okv ?_
  refine ok_W (p10 0).N #[.int .i64 0] 58 (fun W cx hW=>as_wr hW (by decide) (Mine.num (cx.F 7 (by kernel_rfl))) (runNat_w ((p10 0).N) 0 58 ((p11 7).A) ((p11 7).N) ((p11 7).C) W hW)) (by kernel_rfl) (by kernel_rfl) (by kernel_rfl) (by kernel_rfl) (by kernel_rfl) rfl (by kernel_rfl) ?_
  refine okn ?_
  refine okp ?_
  exact ok_nil
 replace hS:=SymF.fc hS hF [0,1,2,1011] [⟨(p1 0).N,#[.bool g,.slice a n c,.slice b k l],28,true⟩,⟨(p1 1).N,#[.bool false,.string ⟨#[]⟩,.int .i64 0],23,true⟩,⟨(p10 0).N,#[.int .i64 0],58,true⟩,⟨(p11 11).N,#[.slice (p11 10).A (p11 10).N (p11 10).C],26,true⟩]
 replace hG:GsAt (gM W10.heap.size (p11 3).A (p11 3).N (p11 3).C q5 :: gN (p11 6).A (p11 6).N q5 :: gM W10.heap.size (p11 7).A (p11 7).N (p11 7).C q :: gN (p11 10).A (p11 10).N q :: _) W11:=⟨hF.fx 3,hF.fx 6,hF.fx 7,hF.fx 10,hF.gx⟩
 clear hF
 refine wq hS hG hK (fun p12=>[.l 66 (.agg #[.slice (p11 10).A (p11 10).N (p11 10).C]) 3 0,.v 67 (.int .i64 (t3:Int)),.c (some 68) (cO W11.heap.size v),.v 69 (.agg #[.slice (p12 2).A (p12 2).N (p12 2).C]),.v 70 (.int .i64 0),.w (some 71) 2 0 [.int .i64 0] (fun _=>[.int .i64 0]) (cR v fun x9=>.agg #[x9]),.p 3 0 [.slice (p12 5).A (p12 5).N (p12 5).C]]) (fun p12=>[(1,pT (p1 0).N 0),(2,pT (p1 1).N 0),(3,.bool false),(4,.int .i64 0),(5,.int .i64 0),(7,.int .i64 (t1:Int)),(8,.int .i64 (t2:Int)),(9,.int .i64 (t3:Int)),(12,pT (p10 0).N 0),(13,pT (p11 11).N 0)]) (fun p12=>?_) (fun p12 W12 T hF hK=>?_)
 ·refine okl ?_
  refine okv ?_
  refine okc (fun W cx=>as_o cx.hb (unhide HU _ _ _ (p11 10).C (cx.G.2.2.2.1))) ?_
  iterate 2 refine okv ?_
  refine ok_W (p10 0).N #[.int .i64 0] 58 (fun W cx hW=>as_wr hW (by decide) (Mine.num (cx.F 2 (by kernel_rfl))) (runNat_w ((p10 0).N) 0 58 ((p12 2).A) ((p12 2).N) ((p12 2).C) W hW)) (by kernel_rfl) (by kernel_rfl) (by kernel_rfl) (by kernel_rfl) (by kernel_rfl) rfl (by kernel_rfl) ?_
  refine okp ?_
  exact ok_nil
 replace hS:=SymF.fc hS hF [0,1,2,3] [⟨(p1 0).N,#[.bool g,.slice a n c,.slice b k l],28,true⟩,⟨(p1 1).N,#[.bool false,.string ⟨#[]⟩,.int .i64 0],23,true⟩,⟨(p10 0).N,#[.int .i64 0],58,true⟩,⟨(p11 11).N,#[.slice (p12 5).A (p12 5).N (p12 5).C],26,true⟩]
 replace hG:GsAt (gM W11.heap.size (p12 2).A (p12 2).N (p12 2).C v :: gN (p12 5).A (p12 5).N v :: _) W12:=⟨hF.fx 2,hF.fx 5,hF.gx⟩
 clear hF
 refine wp_seq ?_
 refine wq hS hG hK (fun p13=>[.v 72 (pT (p10 0).N 0),.l 73 (.int .i64 0) 2 0,.v 74 (.bool false)]) (fun p13=>[(1,pT (p1 0).N 0),(2,pT (p1 1).N 0),(3,.bool false),(4,.int .i64 0),(5,.int .i64 0),(7,.int .i64 (t1:Int)),(8,.int .i64 (t2:Int)),(9,.int .i64 (t3:Int)),(12,pT (p10 0).N 0),(13,pT (p11 11).N 0),(74,.bool false)]) (fun p13=>?_) (fun p13 W13 T hF hK=>?_)
 ·refine okv ?_
  refine okl ?_
  refine okv ?_
  exact ok_nil
 obtain ⟨hS,hG⟩:=SymF.fg hS hF
 clear hF
 refine wp_cond_false (hK.ew 74) (wp_skip (then_n ?_))
 refine wq hS hG hK (fun p14=>[.v 79 (pT (p1 0).N 0),.l 80 (.bool g) 0 0,.l 81 (.agg #[.slice (p12 5).A (p12 5).N (p12 5).C]) 3 0,.v 82 (.int .i64 (t1:Int)),.v 83 (.int .i64 (-(t1:Int))),.v 84 (.int .i64 (t2:Int)),.v 85 (.int .i64 (-(t1:Int) - (t2:Int))),.v 86 (.int .i64 (t3:Int)),.v 87 (.int .i64 (-(t1:Int) - (t2:Int) - (t3:Int))),.c (some 88) (cV (.tuple #[.agg #[.bool false,.string ⟨#[]⟩,.int .i64 0],.int .i64 4])),.v 78 (.tuple #[.agg #[.bool false,.string ⟨#[]⟩,.int .i64 0],.int .i64 4]),.v 89 (.agg #[.bool false,.string ⟨#[]⟩,.int .i64 0]),.v 90 (.int .i64 4),.n 14 #[.bool false,.string ⟨#[]⟩,.int .i64 0] 23,.p 1013 0 [.bool false,.string ⟨#[]⟩,.int .i64 0],.v 15 (.int .i64 4)]) (fun p14=>[(2,pT (p1 1).N 0),(3,.bool false),(4,.int .i64 0),(5,.int .i64 0),(12,pT (p10 0).N 0),(14,pT (p14 13).N 0),(15,.int .i64 4)]) (fun p14=>?_) (fun p14 W14 T hF hK=>?_)
 ·refine okv ?_
  iterate 2 refine okl ?_
  refine okv ?_
  refine okvi ((wr64 (x:=0 - (t1:Int)) (by omega) (by omega)).trans (by omega)) ?_
  refine okv ?_
  refine okvi (wr64 (x:=-(t1:Int) - (t2:Int)) (by omega) (by omega)) ?_
  refine okv ?_
  refine okvi (wr64 (x:=(-(t1:Int) - (t2:Int) - (t3:Int))) (by omega) (by omega)) ?_
  refine okc (fun W cx=>as_v (unhide HO _ _ _ (p12 5).C (cx.G.2.1))) ?_
  iterate 3 refine okv ?_
  refine okn ?_
  refine okp ?_
  refine okv ?_
  exact ok_nil
 replace hS:=SymF.fc hS hF [1,2,1013] [⟨(p1 1).N,#[.bool false,.string ⟨#[]⟩,.int .i64 0],23,true⟩,⟨(p10 0).N,#[.int .i64 0],58,true⟩,⟨(p14 13).N,#[.bool false,.string ⟨#[]⟩,.int .i64 0],23,true⟩]
 replace hG:=hF.gx
 clear hF
 refine wq hS hG hK (fun p15=>[.l 91 (.agg #[.bool false,.string ⟨#[]⟩,.int .i64 0]) 2 0,.v 92 (.int .i64 4),.v 93 (.bool false),.v 94 (.int .i64 4),.p 0 0 [.bool false,.string ⟨#[]⟩,.int .i64 0],.v 3 (.bool false),.v 4 (.int .i64 4)]) (fun p15=>[(2,pT (p1 1).N 0),(3,.bool false),(4,.int .i64 4),(5,.int .i64 0),(12,pT (p10 0).N 0)]) (fun p15=>?_) (fun p15 W15 T hF hK=>?_)
 ·refine okl ?_
  iterate 3 refine okv ?_
  refine okp ?_
  iterate 2 refine okv ?_
  exact ok_nil
 replace hS:=SymF.fc hS hF [0,1] [⟨(p1 1).N,#[.bool false,.string ⟨#[]⟩,.int .i64 0],23,true⟩,⟨(p10 0).N,#[.int .i64 0],58,true⟩]
 replace hG:=hF.gx
 clear hF
 refine wp_ret ?_
 exact sym_end hS hK (.tuple #[.agg #[.bool false,.string ⟨#[]⟩,.int .i64 0],.bool false,.int .i64 4]) [(0,0,3)] [.bool false,.string ⟨#[]⟩,.int .i64 0] (by kernel_rfl) (by kernel_rfl) ⟨rfl,hS.fr⟩
end Go.Proofs.YtpmmapoabbpaiaaGreat
