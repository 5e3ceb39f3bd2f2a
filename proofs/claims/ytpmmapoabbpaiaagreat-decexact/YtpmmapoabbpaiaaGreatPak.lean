/- Of what DecExactRow stands on: DcCmpW DcBig DcAddW. -/
import Derived.Test.YtpmmapoabbpaiaaGreatPaj
import Derived.Test.YtpmmapoabbpaiaaGreatPab
namespace Go.Proofs.YtpmmapoabbpaiaaGreat
open Go.RowKit
set_option maxHeartbeats 2000000
set_option maxRecDepth 20000
def cmpZ (x y:Int):Int:=if x < y then -1 else if y < x then 1 else 0
def sgDc (g:Bool) (s:ByteArray):Int:=if s.size = 0 then 0 else if g then -1 else 1
theorem chk2_o (w:World) (g:Bool) (s:ByteArray) (x:Int) (g2:Bool) (s2:ByteArray) (x2:Int) (e1:Int) (HC:Hid (∀ W:World,Calls Tryz.prog 23 #[.agg #[.bool g,.string s,.int .i64 x]] W fun e W'=>e = .returned (.int .i64 0)∧Below W.heap.size W W')) (HD:Hid (∀ W:World,Calls Tryz.prog 23 #[.agg #[.bool g2,.string s2,.int .i64 x2]] W fun e W'=>e = .returned (.int .i64 e1)∧Below W.heap.size W W')) :
  Calls Tryz.prog 35 #[.agg #[.bool g,.string s,.int .i64 x],.agg #[.bool g2,.string s2,.int .i64 x2]] w fun en w'=>en = .returned (.int .i64 e1)∧Below w.heap.size w w':=by
 refine calls_sym Tryz.func35 rfl (by kernel_rfl) fun T hK=>?_
 replace hK:Kn T _ [(0,.agg #[.bool g,.string s,.int .i64 x]),(1,.agg #[.bool g2,.string s2,.int .i64 x2])]:=hK
 have hS:=Fb.begin w
 have hG:GsAt [] w:=trivial
 refine wq hS hG hK (fun p1=>[.n 2 #[.bool g,.string s,.int .i64 x] 23,.n 3 #[.bool g2,.string s2,.int .i64 x2] 23,.v 4 (.int .i64 0)]) (fun p1=>[(2,pT (p1 0).N 0),(3,pT (p1 1).N 0),(4,.int .i64 0)]) (fun p1=>?_) (fun p1 W1 T hF hK=>?_)
 ·iterate 2 refine okn ?_
  refine okv ?_
  exact ok_nil
 replace hS:=SymF.fc hS hF [1000,1001] [⟨(p1 0).N,#[.bool g,.string s,.int .i64 x],23,true⟩,⟨(p1 1).N,#[.bool g2,.string s2,.int .i64 x2],23,true⟩]
 replace hG:=hF.gx
 clear hF
 refine wp_seq ?_
 refine wq hS hG hK (fun p2=>[.l 6 (.agg #[.bool g,.string s,.int .i64 x]) 0 0,.c (some 7) (cV (.int .i64 0)),.v 5 (.int .i64 0)]) (fun p2=>[(3,pT (p1 1).N 0),(4,.int .i64 0),(5,.int .i64 0)]) (fun p2=>?_) (fun p2 W2 T hF hK=>?_)
 ·refine okl ?_
  refine okc (fun W cx=>as_v (unhide HC _)) ?_
  refine okv ?_
  exact ok_nil
 replace hS:=SymF.fc hS hF [1] [⟨(p1 1).N,#[.bool g2,.string s2,.int .i64 x2],23,true⟩]
 replace hG:=hF.gx
 clear hF
 refine wq hS hG hK (fun p3=>[.v 8 (.int .i64 0),.v 9 (.bool false)]) (fun p3=>[(3,pT (p1 1).N 0),(4,.int .i64 0),(5,.int .i64 0),(9,.bool false)]) (fun p3=>?_) (fun p3 W3 T hF hK=>?_)
 ·iterate 2 refine okv ?_
  exact ok_nil
 obtain ⟨hS,hG⟩:=SymF.fg hS hF
 clear hF
 refine wp_cond_false (hK.ew 9) (wp_skip (then_n ?_))
 refine wq hS hG hK (fun p4=>[.l 11 (.agg #[.bool g2,.string s2,.int .i64 x2]) 0 0,.c (some 12) (cV (.int .i64 e1)),.v 4 (.int .i64 e1)]) (fun p4=>[(4,.int .i64 e1),(5,.int .i64 0),(9,.bool false)]) (fun p4=>?_) (fun p4 W4 T hF hK=>?_)
 ·refine okl ?_
  refine okc (fun W cx=>as_v (unhide HD _)) ?_
  refine okv ?_
  exact ok_nil
 replace hS:=SymF.fc hS hF [] []
 replace hG:=hF.gx
 clear hF
 refine wp_ret ?_
 exact sym_end hS hK (.int .i64 e1) [] [] (by kernel_rfl) (by kernel_rfl) ⟨rfl,hS.fr⟩
theorem sgn_z (w:World) (g:Bool) (s:ByteArray) (x:Int) (hz:s.size = 0) :
  Calls Tryz.prog 43 #[.agg #[.bool g,.string s,.int .i64 x]] w fun en w'=>en = .returned (.int .i64 0)∧Below w.heap.size w w':=by
 refine calls_sym Tryz.func43 rfl (by kernel_rfl) fun T hK=>?_
 replace hK:Kn T _ [(0,.agg #[.bool g,.string s,.int .i64 x])]:=hK
 have hS:=Fb.begin w
 have hG:GsAt [] w:=trivial
 refine wq hS hG hK (fun p1=>[.n 1 #[.bool g,.string s,.int .i64 x] 23,.v 2 (.int .i64 0)]) (fun p1=>[(1,pT (p1 0).N 0),(2,.int .i64 0)]) (fun p1=>?_) (fun p1 W1 T hF hK=>?_)
 ·refine okn ?_
  refine okv ?_
  exact ok_nil
 replace hS:=SymF.fc hS hF [1000] [⟨(p1 0).N,#[.bool g,.string s,.int .i64 x],23,true⟩]
 replace hG:=hF.gx
 clear hF
 refine wp_seq (wp_block ?_)
 refine wq hS hG hK (fun p2=>[.l 4 (.agg #[.bool g,.string s,.int .i64 x]) 0 0,.c (some 5) (cV (.bool true)),.v 3 (.bool true)]) (fun p2=>[(1,pT (p1 0).N 0),(2,.int .i64 0),(3,.bool true)]) (fun p2=>?_) (fun p2 W2 T hF hK=>?_)
 ·refine okl ?_
  refine okc (fun W cx=>as_v (isN_t _ g s x hz)) ?_
  refine okv ?_
  exact ok_nil
 obtain ⟨hS,hG⟩:=SymF.fg hS hF
 clear hF
 refine wp_cond_true (hK.ew 3) ?_
 refine wq hS hG hK (fun p3=>[.v 2 (.int .i64 0)]) (fun p3=>[(1,pT (p1 0).N 0),(2,.int .i64 0),(3,.bool true)]) (fun p3=>?_) (fun p3 W3 T hF hK=>?_)
 ·refine okv ?_
  exact ok_nil
 obtain ⟨hS,hG⟩:=SymF.fg hS hF
 clear hF
 refine wp_ret ?_
 refine inb_r ?_
 refine then_r ?_
 exact sym_end hS hK (.int .i64 0) [] [] (by kernel_rfl) (by kernel_rfl) ⟨rfl,hS.fr⟩
theorem sgn_m (w:World) (s:ByteArray) (x:Int) (hz:s.size≠0) :
  Calls Tryz.prog 43 #[.agg #[.bool true,.string s,.int .i64 x]] w fun en w'=>en = .returned (.int .i64 (-1))∧Below w.heap.size w w':=by
 refine calls_sym Tryz.func43 rfl (by kernel_rfl) fun T hK=>?_
 replace hK:Kn T _ [(0,.agg #[.bool true,.string s,.int .i64 x])]:=hK
 have hS:=Fb.begin w
 have hG:GsAt [] w:=trivial
 refine wq hS hG hK (fun p1=>[.n 1 #[.bool true,.string s,.int .i64 x] 23,.v 2 (.int .i64 0)]) (fun p1=>[(1,pT (p1 0).N 0),(2,.int .i64 0)]) (fun p1=>?_) (fun p1 W1 T hF hK=>?_)
 ·refine okn ?_
  refine okv ?_
  exact ok_nil
 replace hS:=SymF.fc hS hF [1000] [⟨(p1 0).N,#[.bool true,.string s,.int .i64 x],23,true⟩]
 replace hG:=hF.gx
 clear hF
 refine wp_seq (wp_block ?_)
 refine wq hS hG hK (fun p2=>[.l 4 (.agg #[.bool true,.string s,.int .i64 x]) 0 0,.c (some 5) (cV (.bool false)),.v 3 (.bool false)]) (fun p2=>[(1,pT (p1 0).N 0),(2,.int .i64 0),(3,.bool false)]) (fun p2=>?_) (fun p2 W2 T hF hK=>?_)
 ·refine okl ?_
  refine okc (fun W cx=>as_v (isN_f _ true s x hz)) ?_
  refine okv ?_
  exact ok_nil
 obtain ⟨hS,hG⟩:=SymF.fg hS hF
 clear hF
 refine wp_cond_false (hK.ew 3) ?_
 refine wq hS hG hK (fun p3=>[.v 7 (pT (p1 0).N 0),.l 8 (.bool true) 0 0,.v 6 (.bool true)]) (fun p3=>[(2,.int .i64 0),(3,.bool false),(6,.bool true)]) (fun p3=>?_) (fun p3 W3 T hF hK=>?_)
 ·refine okv ?_
  refine okl ?_
  refine okv ?_
  exact ok_nil
 replace hS:=SymF.fc hS hF [] []
 replace hG:=hF.gx
 clear hF
 refine wp_cond_true (hK.ew 6) ?_
 refine wq hS hG hK (fun p4=>[.v 2 (.int .i64 (-1))]) (fun p4=>[(2,.int .i64 (-1)),(3,.bool false),(6,.bool true)]) (fun p4=>?_) (fun p4 W4 T hF hK=>?_)
 ·refine okv ?_
  exact ok_nil
 obtain ⟨hS,hG⟩:=SymF.fg hS hF
 clear hF
 refine wp_ret ?_
 refine inb_r ?_
 refine then_r ?_
 exact sym_end hS hK (.int .i64 (-1)) [] [] (by kernel_rfl) (by kernel_rfl) ⟨rfl,hS.fr⟩
theorem sgn_p (w:World) (s:ByteArray) (x:Int) (hz:s.size≠0) :
  Calls Tryz.prog 43 #[.agg #[.bool false,.string s,.int .i64 x]] w fun en w'=>en = .returned (.int .i64 1)∧Below w.heap.size w w':=by
 refine calls_sym Tryz.func43 rfl (by kernel_rfl) fun T hK=>?_
 replace hK:Kn T _ [(0,.agg #[.bool false,.string s,.int .i64 x])]:=hK
 have hS:=Fb.begin w
 have hG:GsAt [] w:=trivial
 refine wq hS hG hK (fun p1=>[.n 1 #[.bool false,.string s,.int .i64 x] 23,.v 2 (.int .i64 0)]) (fun p1=>[(1,pT (p1 0).N 0),(2,.int .i64 0)]) (fun p1=>?_) (fun p1 W1 T hF hK=>?_)
 ·refine okn ?_
  refine okv ?_
  exact ok_nil
 replace hS:=SymF.fc hS hF [1000] [⟨(p1 0).N,#[.bool false,.string s,.int .i64 x],23,true⟩]
 replace hG:=hF.gx
 clear hF
 refine wp_seq (wp_block ?_)
 refine wq hS hG hK (fun p2=>[.l 4 (.agg #[.bool false,.string s,.int .i64 x]) 0 0,.c (some 5) (cV (.bool false)),.v 3 (.bool false)]) (fun p2=>[(1,pT (p1 0).N 0),(2,.int .i64 0),(3,.bool false)]) (fun p2=>?_) (fun p2 W2 T hF hK=>?_)
 ·refine okl ?_
  refine okc (fun W cx=>as_v (isN_f _ false s x hz)) ?_
  refine okv ?_
  exact ok_nil
 obtain ⟨hS,hG⟩:=SymF.fg hS hF
 clear hF
 refine wp_cond_false (hK.ew 3) ?_
 refine wq hS hG hK (fun p3=>[.v 7 (pT (p1 0).N 0),.l 8 (.bool false) 0 0,.v 6 (.bool false)]) (fun p3=>[(2,.int .i64 0),(3,.bool false),(6,.bool false)]) (fun p3=>?_) (fun p3 W3 T hF hK=>?_)
 ·refine okv ?_
  refine okl ?_
  refine okv ?_
  exact ok_nil
 replace hS:=SymF.fc hS hF [] []
 replace hG:=hF.gx
 clear hF
 refine wp_cond_false (hK.ew 6) (wp_skip ?_)
 refine inb_n (then_n ?_)
 refine wq hS hG hK (fun p4=>[.v 2 (.int .i64 1)]) (fun p4=>[(2,.int .i64 1),(3,.bool false),(6,.bool false)]) (fun p4=>?_) (fun p4 W4 T hF hK=>?_)
 ·refine okv ?_
  exact ok_nil
 obtain ⟨hS,hG⟩:=SymF.fg hS hF
 clear hF
 refine wp_ret ?_
 exact sym_end hS hK (.int .i64 1) [] [] (by kernel_rfl) (by kernel_rfl) ⟨rfl,hS.fr⟩
theorem sgn_any (w:World) (g:Bool) (s:ByteArray) (x:Int):Calls Tryz.prog 43 #[.agg #[.bool g,.string s,.int .i64 x]] w fun e w'=>e = .returned (.int .i64 (sgDc g s))∧Below w.heap.size w w':=by
 unfold sgDc
 by_cases hz:s.size = 0
 ·rw [if_pos hz]; exact sgn_z w g s x hz
 ·rw [if_neg hz]
  cases g
  ·exact sgn_p w s x hz
  ·exact sgn_m w s x hz
theorem far_ne (w:World) (g:Bool) (s:ByteArray) (x:Int) (g2:Bool) (s2:ByteArray) (x2:Int) (c:Int) (hm:s.size≤65536) (hm2:s2.size≤65536) (hx0:-1073741824≤x) (hx1:x≤1073741824) (hy0:-1073741824≤x2) (hy1:x2≤1073741824) (he:c≠0) (HI:Hid (∀ W:World,Calls Tryz.prog 44 #[.int .i64 (x+(s.size:Int)),.int .i64 (x2+(s2.size:Int))] W fun e W'=>e = .returned (.int .i64 c)∧Below W.heap.size W W')) :
  Calls Tryz.prog 45 #[.agg #[.bool g,.string s,.int .i64 x],.agg #[.bool g2,.string s2,.int .i64 x2]] w fun en w'=>en = .returned (.int .i64 c)∧Below w.heap.size w w':=by
 refine calls_sym Tryz.func45 rfl (by kernel_rfl) fun T hK=>?_
 replace hK:Kn T _ [(0,.agg #[.bool g,.string s,.int .i64 x]),(1,.agg #[.bool g2,.string s2,.int .i64 x2])]:=hK
 have hS:=Fb.begin w
 have hG:GsAt [] w:=trivial
 refine wq hS hG hK (fun p1=>[.n 2 #[.bool g,.string s,.int .i64 x] 23,.n 3 #[.bool g2,.string s2,.int .i64 x2] 23,.v 4 (.int .i64 0)]) (fun p1=>[(2,pT (p1 0).N 0),(3,pT (p1 1).N 0),(4,.int .i64 0)]) (fun p1=>?_) (fun p1 W1 T hF hK=>?_)
 ·iterate 2 refine okn ?_
  refine okv ?_
  exact ok_nil
 replace hS:=SymF.fc hS hF [1000,1001] [⟨(p1 0).N,#[.bool g,.string s,.int .i64 x],23,true⟩,⟨(p1 1).N,#[.bool g2,.string s2,.int .i64 x2],23,true⟩]
 replace hG:=hF.gx
 clear hF
 refine wp_seq ?_
 refine wq hS hG hK (fun p2=>[.v 6 (pT (p1 0).N 2),.l 7 (.int .i64 x) 0 2,.v 8 (pT (p1 0).N 1),.l 9 (.string s) 0 1,.v 10 (.int .i64 (s.size:Int)),.v 11 (.int .i64 (x+(s.size:Int))),.v 12 (pT (p1 1).N 2),.l 13 (.int .i64 x2) 1 2,.v 14 (pT (p1 1).N 1),.l 15 (.string s2) 1 1,.v 16 (.int .i64 (s2.size:Int)),.v 17 (.int .i64 (x2+(s2.size:Int))),.c (some 18) (cV (.int .i64 c)),.v 5 (.int .i64 c)]) (fun p2=>[(2,pT (p1 0).N 0),(3,pT (p1 1).N 0),(4,.int .i64 0),(5,.int .i64 c)]) (fun p2=>?_) (fun p2 W2 T hF hK=>?_)
 ·refine okv ?_
  refine okl ?_
  refine okv ?_
  refine okl ?_
  refine okv ?_
  refine okvi (wr64 (x:=x+(s.size:Int)) (by omega) (by omega)) ?_
  refine okv ?_
  refine okl ?_
  refine okv ?_
  refine okl ?_
  refine okv ?_
  refine okvi (wr64 (x:=x2+(s2.size:Int)) (by omega) (by omega)) ?_
  refine okc (fun W cx=>as_v (unhide HI _)) ?_
  refine okv ?_
  exact ok_nil
 obtain ⟨hS,hG⟩:=SymF.fg hS hF
 clear hF
 refine wq hS hG hK (fun p3=>[.v 19 (.int .i64 c),.v 20 (.bool true)]) (fun p3=>[(2,pT (p1 0).N 0),(3,pT (p1 1).N 0),(4,.int .i64 0),(5,.int .i64 c),(20,.bool true)]) (fun p3=>?_) (fun p3 W3 T hF hK=>?_)
 ·refine okv ?_
  refine okvb (bne_iff_ne.2 he) ?_
  exact ok_nil
 obtain ⟨hS,hG⟩:=SymF.fg hS hF
 clear hF
 refine wp_cond_true (hK.ew 20) ?_
 refine wq hS hG hK (fun p4=>[.v 21 (.int .i64 c),.v 4 (.int .i64 c)]) (fun p4=>[(2,pT (p1 0).N 0),(3,pT (p1 1).N 0),(4,.int .i64 c),(20,.bool true)]) (fun p4=>?_) (fun p4 W4 T hF hK=>?_)
 ·iterate 2 refine okv ?_
  exact ok_nil
 obtain ⟨hS,hG⟩:=SymF.fg hS hF
 clear hF
 refine wp_ret ?_
 refine then_r ?_
 exact sym_end hS hK (.int .i64 c) [] [] (by kernel_rfl) (by kernel_rfl) ⟨rfl,hS.fr⟩
theorem far_eq (w:World) (g:Bool) (s:ByteArray) (x:Int) (g2:Bool) (s2:ByteArray) (x2:Int) (c:Int) (hm:s.size≤65536) (hm2:s2.size≤65536) (hx0:-1073741824≤x) (hx1:x≤1073741824) (hy0:-1073741824≤x2) (hy1:x2≤1073741824) (HI:Hid (∀ W:World,Calls Tryz.prog 44 #[.int .i64 (x+(s.size:Int)),.int .i64 (x2+(s2.size:Int))] W fun e W'=>e = .returned (.int .i64 0)∧Below W.heap.size W W')) (HS:Hid (∀ W:World,Calls Tryz.prog 86 #[.string s,.string s2] W fun e W'=>e = .returned (.int .i64 c)∧Below W.heap.size W W')) :
  Calls Tryz.prog 45 #[.agg #[.bool g,.string s,.int .i64 x],.agg #[.bool g2,.string s2,.int .i64 x2]] w fun en w'=>en = .returned (.int .i64 c)∧Below w.heap.size w w':=by
 refine calls_sym Tryz.func45 rfl (by kernel_rfl) fun T hK=>?_
 replace hK:Kn T _ [(0,.agg #[.bool g,.string s,.int .i64 x]),(1,.agg #[.bool g2,.string s2,.int .i64 x2])]:=hK
 have hS:=Fb.begin w
 have hG:GsAt [] w:=trivial
 refine wq hS hG hK (fun p1=>[.n 2 #[.bool g,.string s,.int .i64 x] 23,.n 3 #[.bool g2,.string s2,.int .i64 x2] 23,.v 4 (.int .i64 0)]) (fun p1=>[(2,pT (p1 0).N 0),(3,pT (p1 1).N 0),(4,.int .i64 0)]) (fun p1=>?_) (fun p1 W1 T hF hK=>?_)
 ·iterate 2 refine okn ?_
  refine okv ?_
  exact ok_nil
 replace hS:=SymF.fc hS hF [1000,1001] [⟨(p1 0).N,#[.bool g,.string s,.int .i64 x],23,true⟩,⟨(p1 1).N,#[.bool g2,.string s2,.int .i64 x2],23,true⟩]
 replace hG:=hF.gx
 clear hF
 refine wp_seq ?_
 refine wq hS hG hK (fun p2=>[.v 6 (pT (p1 0).N 2),.l 7 (.int .i64 x) 0 2,.v 8 (pT (p1 0).N 1),.l 9 (.string s) 0 1,.v 10 (.int .i64 (s.size:Int)),.v 11 (.int .i64 (x+(s.size:Int))),.v 12 (pT (p1 1).N 2),.l 13 (.int .i64 x2) 1 2,.v 14 (pT (p1 1).N 1),.l 15 (.string s2) 1 1,.v 16 (.int .i64 (s2.size:Int)),.v 17 (.int .i64 (x2+(s2.size:Int))),.c (some 18) (cV (.int .i64 0)),.v 5 (.int .i64 0)]) (fun p2=>[(2,pT (p1 0).N 0),(3,pT (p1 1).N 0),(4,.int .i64 0),(5,.int .i64 0)]) (fun p2=>?_) (fun p2 W2 T hF hK=>?_)
 ·refine okv ?_
  refine okl ?_
  refine okv ?_
  refine okl ?_
  refine okv ?_
  refine okvi (wr64 (x:=x+(s.size:Int)) (by omega) (by omega)) ?_
  refine okv ?_
  refine okl ?_
  refine okv ?_
  refine okl ?_
  refine okv ?_
  refine okvi (wr64 (x:=x2+(s2.size:Int)) (by omega) (by omega)) ?_
  refine okc (fun W cx=>as_v (unhide HI _)) ?_
  refine okv ?_
  exact ok_nil
 obtain ⟨hS,hG⟩:=SymF.fg hS hF
 clear hF
 refine wq hS hG hK (fun p3=>[.v 19 (.int .i64 0),.v 20 (.bool false)]) (fun p3=>[(2,pT (p1 0).N 0),(3,pT (p1 1).N 0),(4,.int .i64 0),(5,.int .i64 0),(20,.bool false)]) (fun p3=>?_) (fun p3 W3 T hF hK=>?_)
 ·iterate 2 refine okv ?_
  exact ok_nil
 obtain ⟨hS,hG⟩:=SymF.fg hS hF
 clear hF
 refine wp_cond_false (hK.ew 20) (wp_skip (then_n ?_))
 refine wq hS hG hK (fun p4=>[.v 22 (pT (p1 0).N 1),.l 23 (.string s) 0 1,.v 24 (pT (p1 1).N 1),.l 25 (.string s2) 1 1,.c (some 26) (cV (.int .i64 c)),.v 4 (.int .i64 c)]) (fun p4=>[(4,.int .i64 c),(5,.int .i64 0),(20,.bool false)]) (fun p4=>?_) (fun p4 W4 T hF hK=>?_)
 ·refine okv ?_
  refine okl ?_
  refine okv ?_
  refine okl ?_
  refine okc (fun W cx=>as_v (unhide HS _)) ?_
  refine okv ?_
  exact ok_nil
 replace hS:=SymF.fc hS hF [] []
 replace hG:=hF.gx
 clear hF
 refine wp_ret ?_
 exact sym_end hS hK (.int .i64 c) [] [] (by kernel_rfl) (by kernel_rfl) ⟨rfl,hS.fr⟩
theorem dcmp_ne (w:World) (g:Bool) (s:ByteArray) (x:Int) (g2:Bool) (s2:ByteArray) (x2:Int) (t1 t2 c:Int) (he:t1≠t2) (HC:Hid (∀ W:World,Calls Tryz.prog 35 #[.agg #[.bool g,.string s,.int .i64 x],.agg #[.bool g2,.string s2,.int .i64 x2]] W fun e W'=>e = .returned (.int .i64 0)∧Below W.heap.size W W')) (H1:Hid (∀ W:World,Calls Tryz.prog 43 #[.agg #[.bool g,.string s,.int .i64 x]] W fun e W'=>e = .returned (.int .i64 t1)∧Below W.heap.size W W')) (H2:Hid (∀ W:World,Calls Tryz.prog 43 #[.agg #[.bool g2,.string s2,.int .i64 x2]] W fun e W'=>e = .returned (.int .i64 t2)∧Below W.heap.size W W')) (HI:Hid (∀ W:World,Calls Tryz.prog 44 #[.int .i64 t1,.int .i64 t2] W fun e W'=>e = .returned (.int .i64 c)∧Below W.heap.size W W')) :
  Calls Tryz.prog 12 #[.agg #[.bool g,.string s,.int .i64 x],.agg #[.bool g2,.string s2,.int .i64 x2]] w fun en w'=>en = .returned (.tuple #[.int .i64 c,.int .i64 0])∧Below w.heap.size w w':=by
 refine calls_sym Tryz.func12 rfl (by kernel_rfl) fun T hK=>?_
 replace hK:Kn T _ [(0,.agg #[.bool g,.string s,.int .i64 x]),(1,.agg #[.bool g2,.string s2,.int .i64 x2])]:=hK
 have hS:=Fb.begin w
 have hG:GsAt [] w:=trivial
 refine wq hS hG hK (fun p1=>[.n 2 #[.bool g,.string s,.int .i64 x] 23,.n 3 #[.bool g2,.string s2,.int .i64 x2] 23,.v 4 (.int .i64 0),.v 5 (.int .i64 0)]) (fun p1=>[(2,pT (p1 0).N 0),(3,pT (p1 1).N 0),(4,.int .i64 0),(5,.int .i64 0)]) (fun p1=>?_) (fun p1 W1 T hF hK=>?_)
 ·iterate 2 refine okn ?_
  iterate 2 refine okv ?_
  exact ok_nil
 replace hS:=SymF.fc hS hF [1000,1001] [⟨(p1 0).N,#[.bool g,.string s,.int .i64 x],23,true⟩,⟨(p1 1).N,#[.bool g2,.string s2,.int .i64 x2],23,true⟩]
 replace hG:=hF.gx
 clear hF
 refine wp_seq ?_
 refine wq hS hG hK (fun p2=>[.l 9 (.agg #[.bool g,.string s,.int .i64 x]) 0 0,.l 10 (.agg #[.bool g2,.string s2,.int .i64 x2]) 1 0,.c (some 11) (cV (.int .i64 0)),.v 6 (.int .i64 0)]) (fun p2=>[(2,pT (p1 0).N 0),(3,pT (p1 1).N 0),(4,.int .i64 0),(5,.int .i64 0),(6,.int .i64 0)]) (fun p2=>?_) (fun p2 W2 T hF hK=>?_)
 ·iterate 2 refine okl ?_
  refine okc (fun W cx=>as_v (unhide HC _)) ?_
  refine okv ?_
  exact ok_nil
 obtain ⟨hS,hG⟩:=SymF.fg hS hF
 clear hF
 refine wq hS hG hK (fun p3=>[.v 12 (.int .i64 0),.v 13 (.bool false)]) (fun p3=>[(2,pT (p1 0).N 0),(3,pT (p1 1).N 0),(4,.int .i64 0),(5,.int .i64 0),(6,.int .i64 0),(13,.bool false)]) (fun p3=>?_) (fun p3 W3 T hF hK=>?_)
 ·iterate 2 refine okv ?_
  exact ok_nil
 obtain ⟨hS,hG⟩:=SymF.fg hS hF
 clear hF
 refine wp_cond_false (hK.ew 13) (wp_skip (then_n ?_))
 refine wq hS hG hK (fun p4=>[.l 15 (.agg #[.bool g,.string s,.int .i64 x]) 0 0,.c (some 16) (cV (.int .i64 t1)),.v 7 (.int .i64 t1)]) (fun p4=>[(2,pT (p1 0).N 0),(3,pT (p1 1).N 0),(4,.int .i64 0),(5,.int .i64 0),(6,.int .i64 0),(7,.int .i64 t1),(13,.bool false)]) (fun p4=>?_) (fun p4 W4 T hF hK=>?_)
 ·refine okl ?_
  refine okc (fun W cx=>as_v (unhide H1 _)) ?_
  refine okv ?_
  exact ok_nil
 obtain ⟨hS,hG⟩:=SymF.fg hS hF
 clear hF
 refine wp_seq ?_
 refine wq hS hG hK (fun p5=>[.l 17 (.agg #[.bool g2,.string s2,.int .i64 x2]) 1 0,.c (some 18) (cV (.int .i64 t2)),.v 8 (.int .i64 t2)]) (fun p5=>[(2,pT (p1 0).N 0),(3,pT (p1 1).N 0),(4,.int .i64 0),(5,.int .i64 0),(6,.int .i64 0),(7,.int .i64 t1),(8,.int .i64 t2),(13,.bool false)]) (fun p5=>?_) (fun p5 W5 T hF hK=>?_)
 ·refine okl ?_
  refine okc (fun W cx=>as_v (unhide H2 _)) ?_
  refine okv ?_
  exact ok_nil
 obtain ⟨hS,hG⟩:=SymF.fg hS hF
 clear hF
 refine wq hS hG hK (fun p6=>[.v 19 (.int .i64 t1),.v 20 (.int .i64 t2),.v 21 (.bool true)]) (fun p6=>[(2,pT (p1 0).N 0),(3,pT (p1 1).N 0),(4,.int .i64 0),(5,.int .i64 0),(6,.int .i64 0),(7,.int .i64 t1),(8,.int .i64 t2),(13,.bool false),(21,.bool true)]) (fun p6=>?_) (fun p6 W6 T hF hK=>?_)
 ·iterate 2 refine okv ?_
  refine okvb (bne_iff_ne.2 he) ?_
  exact ok_nil
 obtain ⟨hS,hG⟩:=SymF.fg hS hF
 clear hF
 refine wp_cond_true (hK.ew 21) ?_
 refine wq hS hG hK (fun p7=>[.v 22 (.int .i64 t1),.v 23 (.int .i64 t2),.c (some 24) (cV (.int .i64 c)),.v 4 (.int .i64 c),.v 5 (.int .i64 0)]) (fun p7=>[(2,pT (p1 0).N 0),(3,pT (p1 1).N 0),(4,.int .i64 c),(5,.int .i64 0),(6,.int .i64 0),(7,.int .i64 t1),(13,.bool false),(21,.bool true)]) (fun p7=>?_) (fun p7 W7 T hF hK=>?_)
 ·iterate 2 refine okv ?_
  refine okc (fun W cx=>as_v (unhide HI _)) ?_
  iterate 2 refine okv ?_
  exact ok_nil
 obtain ⟨hS,hG⟩:=SymF.fg hS hF
 clear hF
 refine wp_ret ?_
 refine then_r ?_
 exact sym_end hS hK (.tuple #[.int .i64 c,.int .i64 0]) [] [] (by kernel_rfl) (by kernel_rfl) ⟨rfl,hS.fr⟩
theorem dcmp_eq (w:World) (g:Bool) (s:ByteArray) (x:Int) (g2:Bool) (s2:ByteArray) (x2:Int) (t1 t2 c r:Int) (he:t1 = t2) (hr:IntKind.wrap .i64 (t1 * c) = r) (HC:Hid (∀ W:World,Calls Tryz.prog 35 #[.agg #[.bool g,.string s,.int .i64 x],.agg #[.bool g2,.string s2,.int .i64 x2]] W fun e W'=>e = .returned (.int .i64 0)∧Below W.heap.size W W')) (H1:Hid (∀ W:World,Calls Tryz.prog 43 #[.agg #[.bool g,.string s,.int .i64 x]] W fun e W'=>e = .returned (.int .i64 t1)∧Below W.heap.size W W')) (H2:Hid (∀ W:World,Calls Tryz.prog 43 #[.agg #[.bool g2,.string s2,.int .i64 x2]] W fun e W'=>e = .returned (.int .i64 t2)∧Below W.heap.size W W')) (HF:Hid (∀ W:World,Calls Tryz.prog 45 #[.agg #[.bool g,.string s,.int .i64 x],.agg #[.bool g2,.string s2,.int .i64 x2]] W fun e W'=>e = .returned (.int .i64 c)∧Below W.heap.size W W')) :
  Calls Tryz.prog 12 #[.agg #[.bool g,.string s,.int .i64 x],.agg #[.bool g2,.string s2,.int .i64 x2]] w fun en w'=>en = .returned (.tuple #[.int .i64 r,.int .i64 0])∧Below w.heap.size w w':=by
 refine calls_sym Tryz.func12 rfl (by kernel_rfl) fun T hK=>?_
 replace hK:Kn T _ [(0,.agg #[.bool g,.string s,.int .i64 x]),(1,.agg #[.bool g2,.string s2,.int .i64 x2])]:=hK
 have hS:=Fb.begin w
 have hG:GsAt [] w:=trivial
 refine wq hS hG hK (fun p1=>[.n 2 #[.bool g,.string s,.int .i64 x] 23,.n 3 #[.bool g2,.string s2,.int .i64 x2] 23,.v 4 (.int .i64 0),.v 5 (.int .i64 0)]) (fun p1=>[(2,pT (p1 0).N 0),(3,pT (p1 1).N 0),(4,.int .i64 0),(5,.int .i64 0)]) (fun p1=>?_) (fun p1 W1 T hF hK=>?_)
 ·iterate 2 refine okn ?_
  iterate 2 refine okv ?_
  exact ok_nil
 replace hS:=SymF.fc hS hF [1000,1001] [⟨(p1 0).N,#[.bool g,.string s,.int .i64 x],23,true⟩,⟨(p1 1).N,#[.bool g2,.string s2,.int .i64 x2],23,true⟩]
 replace hG:=hF.gx
 clear hF
 refine wp_seq ?_
 refine wq hS hG hK (fun p2=>[.l 9 (.agg #[.bool g,.string s,.int .i64 x]) 0 0,.l 10 (.agg #[.bool g2,.string s2,.int .i64 x2]) 1 0,.c (some 11) (cV (.int .i64 0)),.v 6 (.int .i64 0)]) (fun p2=>[(2,pT (p1 0).N 0),(3,pT (p1 1).N 0),(4,.int .i64 0),(5,.int .i64 0),(6,.int .i64 0)]) (fun p2=>?_) (fun p2 W2 T hF hK=>?_)
 ·iterate 2 refine okl ?_
  refine okc (fun W cx=>as_v (unhide HC _)) ?_
  refine okv ?_
  exact ok_nil
 obtain ⟨hS,hG⟩:=SymF.fg hS hF
 clear hF
 refine wq hS hG hK (fun p3=>[.v 12 (.int .i64 0),.v 13 (.bool false)]) (fun p3=>[(2,pT (p1 0).N 0),(3,pT (p1 1).N 0),(4,.int .i64 0),(5,.int .i64 0),(6,.int .i64 0),(13,.bool false)]) (fun p3=>?_) (fun p3 W3 T hF hK=>?_)
 ·iterate 2 refine okv ?_
  exact ok_nil
 obtain ⟨hS,hG⟩:=SymF.fg hS hF
 clear hF
 refine wp_cond_false (hK.ew 13) (wp_skip (then_n ?_))
 refine wq hS hG hK (fun p4=>[.l 15 (.agg #[.bool g,.string s,.int .i64 x]) 0 0,.c (some 16) (cV (.int .i64 t1)),.v 7 (.int .i64 t1)]) (fun p4=>[(2,pT (p1 0).N 0),(3,pT (p1 1).N 0),(4,.int .i64 0),(5,.int .i64 0),(6,.int .i64 0),(7,.int .i64 t1),(13,.bool false)]) (fun p4=>?_) (fun p4 W4 T hF hK=>?_)
 ·refine okl ?_
  refine okc (fun W cx=>as_v (unhide H1 _)) ?_
  refine okv ?_
  exact ok_nil
 obtain ⟨hS,hG⟩:=SymF.fg hS hF
 clear hF
 refine wp_seq ?_
 refine wq hS hG hK (fun p5=>[.l 17 (.agg #[.bool g2,.string s2,.int .i64 x2]) 1 0,.c (some 18) (cV (.int .i64 t2)),.v 8 (.int .i64 t2)]) (fun p5=>[(2,pT (p1 0).N 0),(3,pT (p1 1).N 0),(4,.int .i64 0),(5,.int .i64 0),(6,.int .i64 0),(7,.int .i64 t1),(8,.int .i64 t2),(13,.bool false)]) (fun p5=>?_) (fun p5 W5 T hF hK=>?_)
 ·refine okl ?_
  refine okc (fun W cx=>as_v (unhide H2 _)) ?_
  refine okv ?_
  exact ok_nil
 obtain ⟨hS,hG⟩:=SymF.fg hS hF
 clear hF
 refine wq hS hG hK (fun p6=>[.v 19 (.int .i64 t1),.v 20 (.int .i64 t2),.v 21 (.bool false)]) (fun p6=>[(2,pT (p1 0).N 0),(3,pT (p1 1).N 0),(4,.int .i64 0),(5,.int .i64 0),(6,.int .i64 0),(7,.int .i64 t1),(8,.int .i64 t2),(13,.bool false),(21,.bool false)]) (fun p6=>?_) (fun p6 W6 T hF hK=>?_)
 ·iterate 2 refine okv ?_
  refine okvb (bne_eq_false_iff_eq.2 he) ?_
  exact ok_nil
 obtain ⟨hS,hG⟩:=SymF.fg hS hF
 clear hF
 refine wp_cond_false (hK.ew 21) (wp_skip (then_n ?_))
 refine wq hS hG hK (fun p7=>[.v 25 (.int .i64 t1),.l 26 (.agg #[.bool g,.string s,.int .i64 x]) 0 0,.l 27 (.agg #[.bool g2,.string s2,.int .i64 x2]) 1 0,.c (some 28) (cV (.int .i64 c)),.v 29 (.int .i64 r),.v 4 (.int .i64 r),.v 5 (.int .i64 0)]) (fun p7=>[(4,.int .i64 r),(5,.int .i64 0),(6,.int .i64 0),(7,.int .i64 t1),(8,.int .i64 t2),(13,.bool false),(21,.bool false)]) (fun p7=>?_) (fun p7 W7 T hF hK=>?_)
 ·refine okv ?_
  iterate 2 refine okl ?_
  refine okc (fun W cx=>as_v (unhide HF _)) ?_
  refine okvi (hr) ?_
  iterate 2 refine okv ?_
  exact ok_nil
 replace hS:=SymF.fc hS hF [] []
 replace hG:=hF.gx
 clear hF
 refine wp_ret ?_
 exact sym_end hS hK (.tuple #[.int .i64 r,.int .i64 0]) [] [] (by kernel_rfl) (by kernel_rfl) ⟨rfl,hS.fr⟩
theorem tsz_is (w:World) (g:Bool) (s:ByteArray) (x:Int) (ex t:Int) (hm:s.size≤65536) (hx0:-1073741824≤x) (hx1:x≤1073741824) (hy0:-1073741824≤ex) (hy1:ex≤1073741824) (ht:(s.size:Int)+x - ex = t) :
  Calls Tryz.prog 38 #[.agg #[.bool g,.string s,.int .i64 x],.int .i64 ex] w fun en w'=>en = .returned (.int .i64 t)∧Below w.heap.size w w':=by
 refine calls_sym Tryz.func38 rfl (by kernel_rfl) fun T hK=>?_
 replace hK:Kn T _ [(0,.agg #[.bool g,.string s,.int .i64 x]),(1,.int .i64 ex)]:=hK
 have hS:=Fb.begin w
 have hG:GsAt [] w:=trivial
 refine wq hS hG hK (fun p1=>[.n 2 #[.bool g,.string s,.int .i64 x] 23,.v 4 (.int .i64 0)]) (fun p1=>[(1,.int .i64 ex),(2,pT (p1 0).N 0),(4,.int .i64 0)]) (fun p1=>?_) (fun p1 W1 T hF hK=>?_)
 ·refine okn ?_
  refine okv ?_
  exact ok_nil
 replace hS:=SymF.fc hS hF [1000] [⟨(p1 0).N,#[.bool g,.string s,.int .i64 x],23,true⟩]
 replace hG:=hF.gx
 clear hF
 refine wq hS hG hK (fun p2=>[.v 5 (pT (p1 0).N 1),.l 6 (.string s) 0 1,.v 7 (.int .i64 (s.size:Int)),.v 8 (pT (p1 0).N 2),.l 9 (.int .i64 x) 0 2,.v 10 (.int .i64 ((s.size:Int)+x)),.v 11 (.int .i64 ex),.v 12 (.int .i64 t),.v 4 (.int .i64 t)]) (fun p2=>[(4,.int .i64 t)]) (fun p2=>?_) (fun p2 W2 T hF hK=>?_)
 ·refine okv ?_
  refine okl ?_
  iterate 2 refine okv ?_
  refine okl ?_
  refine okvi (wr64 (x:=(s.size:Int)+x) (by omega) (by omega)) ?_
  refine okv ?_
  refine okvi ((wr64 (x:=(s.size:Int)+x - ex) (by omega) (by omega)).trans ht) ?_
  refine okv ?_
  exact ok_nil
 replace hS:=SymF.fc hS hF [] []
 replace hG:=hF.gx
 clear hF
 refine wp_ret ?_
 exact sym_end hS hK (.int .i64 t) [] [] (by kernel_rfl) (by kernel_rfl) ⟨rfl,hS.fr⟩
def dg (s:ByteArray) (k:Nat):Int:=if h:k < s.size then ((s[k]'h).toNat:Int) - 48 else 0
theorem dadd_zz_tt (w:World) (s:ByteArray) (x:Int) (s2:ByteArray) (x2:Int) (ha:s.size = 0) (hb:s2.size = 0) (HC:Hid (∀ W:World,Calls Tryz.prog 35 #[.agg #[.bool true,.string s,.int .i64 x],.agg #[.bool true,.string s2,.int .i64 x2]] W fun e W'=>e = .returned (.int .i64 0)∧Below W.heap.size W W')) :
  Calls Tryz.prog 10 #[.agg #[.bool true,.string s,.int .i64 x],.agg #[.bool true,.string s2,.int .i64 x2]] w fun en w'=>en = .returned (.tuple #[.agg #[.bool true,.string ⟨#[]⟩,.int .i64 0],.int .i64 0])∧Below w.heap.size w w':=by
 refine calls_sym Tryz.func10 rfl (by kernel_rfl) fun T hK=>?_
 replace hK:Kn T _ [(0,.agg #[.bool true,.string s,.int .i64 x]),(1,.agg #[.bool true,.string s2,.int .i64 x2])]:=hK
 have hS:=Fb.begin w
 have hG:GsAt [] w:=trivial
 refine wq hS hG hK (fun p1=>[.n 2 #[.bool true,.string s,.int .i64 x] 23,.n 3 #[.bool true,.string s2,.int .i64 x2] 23,.n 4 #[.bool false,.string ⟨#[]⟩,.int .i64 0] 23,.v 5 (.int .i64 0)]) (fun p1=>[(2,pT (p1 0).N 0),(3,pT (p1 1).N 0),(4,pT (p1 2).N 0),(5,.int .i64 0)]) (fun p1=>?_) (fun p1 W1 T hF hK=>?_)
 ·iterate 3 refine okn ?_
  refine okv ?_
  exact ok_nil
 replace hS:=SymF.fc hS hF [1000,1001,1002] [⟨(p1 0).N,#[.bool true,.string s,.int .i64 x],23,true⟩,⟨(p1 1).N,#[.bool true,.string s2,.int .i64 x2],23,true⟩,⟨(p1 2).N,#[.bool false,.string ⟨#[]⟩,.int .i64 0],23,true⟩]
 replace hG:=hF.gx
 clear hF
 refine wp_seq ?_
 refine wq hS hG hK (fun p2=>[.l 11 (.agg #[.bool true,.string s,.int .i64 x]) 0 0,.l 12 (.agg #[.bool true,.string s2,.int .i64 x2]) 1 0,.c (some 13) (cV (.int .i64 0)),.v 6 (.int .i64 0)]) (fun p2=>[(2,pT (p1 0).N 0),(3,pT (p1 1).N 0),(4,pT (p1 2).N 0),(5,.int .i64 0),(6,.int .i64 0)]) (fun p2=>?_) (fun p2 W2 T hF hK=>?_)
 ·iterate 2 refine okl ?_
  refine okc (fun W cx=>as_v (unhide HC _)) ?_
  refine okv ?_
  exact ok_nil
 obtain ⟨hS,hG⟩:=SymF.fg hS hF
 clear hF
 refine wq hS hG hK (fun p3=>[.v 14 (.int .i64 0),.v 15 (.bool false)]) (fun p3=>[(2,pT (p1 0).N 0),(3,pT (p1 1).N 0),(4,pT (p1 2).N 0),(5,.int .i64 0),(6,.int .i64 0),(15,.bool false)]) (fun p3=>?_) (fun p3 W3 T hF hK=>?_)
 ·iterate 2 refine okv ?_
  exact ok_nil
 obtain ⟨hS,hG⟩:=SymF.fg hS hF
 clear hF
 refine wp_cond_false (hK.ew 15) (wp_skip ?_)
 refine then_n (wp_seq (wp_block ?_))
 refine wq hS hG hK (fun p4=>[.l 19 (.agg #[.bool true,.string s,.int .i64 x]) 0 0,.c (some 20) (cV (.bool true)),.v 21 (.bool true),.l 22 (.agg #[.bool true,.string s2,.int .i64 x2]) 1 0,.c (some 23) (cV (.bool true)),.v 24 (.bool true),.v 18 (.bool true)]) (fun p4=>[(2,pT (p1 0).N 0),(3,pT (p1 1).N 0),(4,pT (p1 2).N 0),(5,.int .i64 0),(6,.int .i64 0),(15,.bool false),(18,.bool true)]) (fun p4=>?_) (fun p4 W4 T hF hK=>?_)
 ·refine okl ?_
  refine okc (fun W cx=>as_v (isN_t _ true s x ha)) ?_
  refine okv ?_
  refine okl ?_
  refine okc (fun W cx=>as_v (isN_t _ true s2 x2 hb)) ?_
  iterate 2 refine okv ?_
  exact ok_nil
 obtain ⟨hS,hG⟩:=SymF.fg hS hF
 clear hF
 refine wp_cond_true (hK.ew 18) ?_
 refine wq hS hG hK (fun p5=>[.v 25 (pT (p1 0).N 0),.l 26 (.bool true) 0 0,.v 27 (.bool true),.v 28 (pT (p1 1).N 0),.l 29 (.bool true) 1 0,.v 30 (.bool true),.v 31 (.agg #[.bool true,.string ⟨#[]⟩,.int .i64 0]),.p 2 0 [.bool true,.string ⟨#[]⟩,.int .i64 0],.v 5 (.int .i64 0)]) (fun p5=>[(2,pT (p1 0).N 0),(3,pT (p1 1).N 0),(4,pT (p1 2).N 0),(5,.int .i64 0),(6,.int .i64 0),(15,.bool false),(18,.bool true)]) (fun p5=>?_) (fun p5 W5 T hF hK=>?_)
 ·refine okv ?_
  refine okl ?_
  iterate 2 refine okv ?_
  refine okl ?_
  iterate 2 refine okv ?_
  refine okp ?_
  refine okv ?_
  exact ok_nil
 replace hS:=SymF.fc hS hF [0,1,2] [⟨(p1 0).N,#[.bool true,.string s,.int .i64 x],23,true⟩,⟨(p1 1).N,#[.bool true,.string s2,.int .i64 x2],23,true⟩,⟨(p1 2).N,#[.bool true,.string ⟨#[]⟩,.int .i64 0],23,true⟩]
 replace hG:=hF.gx
 clear hF
 refine wp_ret ?_
 refine inb_r ?_
 refine then_r ?_
 exact sym_end hS hK (.tuple #[.agg #[.bool true,.string ⟨#[]⟩,.int .i64 0],.int .i64 0]) [(2,0,3)] [.bool true,.string ⟨#[]⟩,.int .i64 0] (by kernel_rfl) (by kernel_rfl) ⟨rfl,hS.fr⟩
theorem dadd_zz_tf (w:World) (s:ByteArray) (x:Int) (s2:ByteArray) (x2:Int) (ha:s.size = 0) (hb:s2.size = 0) (HC:Hid (∀ W:World,Calls Tryz.prog 35 #[.agg #[.bool true,.string s,.int .i64 x],.agg #[.bool false,.string s2,.int .i64 x2]] W fun e W'=>e = .returned (.int .i64 0)∧Below W.heap.size W W')) :
  Calls Tryz.prog 10 #[.agg #[.bool true,.string s,.int .i64 x],.agg #[.bool false,.string s2,.int .i64 x2]] w fun en w'=>en = .returned (.tuple #[.agg #[.bool false,.string ⟨#[]⟩,.int .i64 0],.int .i64 0])∧Below w.heap.size w w':=by
 refine calls_sym Tryz.func10 rfl (by kernel_rfl) fun T hK=>?_
 replace hK:Kn T _ [(0,.agg #[.bool true,.string s,.int .i64 x]),(1,.agg #[.bool false,.string s2,.int .i64 x2])]:=hK
 have hS:=Fb.begin w
 have hG:GsAt [] w:=trivial
 refine wq hS hG hK (fun p1=>[.n 2 #[.bool true,.string s,.int .i64 x] 23,.n 3 #[.bool false,.string s2,.int .i64 x2] 23,.n 4 #[.bool false,.string ⟨#[]⟩,.int .i64 0] 23,.v 5 (.int .i64 0)]) (fun p1=>[(2,pT (p1 0).N 0),(3,pT (p1 1).N 0),(4,pT (p1 2).N 0),(5,.int .i64 0)]) (fun p1=>?_) (fun p1 W1 T hF hK=>?_)
 ·iterate 3 refine okn ?_
  refine okv ?_
  exact ok_nil
 replace hS:=SymF.fc hS hF [1000,1001,1002] [⟨(p1 0).N,#[.bool true,.string s,.int .i64 x],23,true⟩,⟨(p1 1).N,#[.bool false,.string s2,.int .i64 x2],23,true⟩,⟨(p1 2).N,#[.bool false,.string ⟨#[]⟩,.int .i64 0],23,true⟩]
 replace hG:=hF.gx
 clear hF
 refine wp_seq ?_
 refine wq hS hG hK (fun p2=>[.l 11 (.agg #[.bool true,.string s,.int .i64 x]) 0 0,.l 12 (.agg #[.bool false,.string s2,.int .i64 x2]) 1 0,.c (some 13) (cV (.int .i64 0)),.v 6 (.int .i64 0)]) (fun p2=>[(2,pT (p1 0).N 0),(3,pT (p1 1).N 0),(4,pT (p1 2).N 0),(5,.int .i64 0),(6,.int .i64 0)]) (fun p2=>?_) (fun p2 W2 T hF hK=>?_)
 ·iterate 2 refine okl ?_
  refine okc (fun W cx=>as_v (unhide HC _)) ?_
  refine okv ?_
  exact ok_nil
 obtain ⟨hS,hG⟩:=SymF.fg hS hF
 clear hF
 refine wq hS hG hK (fun p3=>[.v 14 (.int .i64 0),.v 15 (.bool false)]) (fun p3=>[(2,pT (p1 0).N 0),(3,pT (p1 1).N 0),(4,pT (p1 2).N 0),(5,.int .i64 0),(6,.int .i64 0),(15,.bool false)]) (fun p3=>?_) (fun p3 W3 T hF hK=>?_)
 ·iterate 2 refine okv ?_
  exact ok_nil
 obtain ⟨hS,hG⟩:=SymF.fg hS hF
 clear hF
 refine wp_cond_false (hK.ew 15) (wp_skip ?_)
 refine then_n (wp_seq (wp_block ?_))
 refine wq hS hG hK (fun p4=>[.l 19 (.agg #[.bool true,.string s,.int .i64 x]) 0 0,.c (some 20) (cV (.bool true)),.v 21 (.bool true),.l 22 (.agg #[.bool false,.string s2,.int .i64 x2]) 1 0,.c (some 23) (cV (.bool true)),.v 24 (.bool true),.v 18 (.bool true)]) (fun p4=>[(2,pT (p1 0).N 0),(3,pT (p1 1).N 0),(4,pT (p1 2).N 0),(5,.int .i64 0),(6,.int .i64 0),(15,.bool false),(18,.bool true)]) (fun p4=>?_) (fun p4 W4 T hF hK=>?_)
 ·refine okl ?_
  refine okc (fun W cx=>as_v (isN_t _ true s x ha)) ?_
  refine okv ?_
  refine okl ?_
  refine okc (fun W cx=>as_v (isN_t _ false s2 x2 hb)) ?_
  iterate 2 refine okv ?_
  exact ok_nil
 obtain ⟨hS,hG⟩:=SymF.fg hS hF
 clear hF
 refine wp_cond_true (hK.ew 18) ?_
 refine wq hS hG hK (fun p5=>[.v 25 (pT (p1 0).N 0),.l 26 (.bool true) 0 0,.v 27 (.bool true),.v 28 (pT (p1 1).N 0),.l 29 (.bool false) 1 0,.v 30 (.bool false),.v 31 (.agg #[.bool false,.string ⟨#[]⟩,.int .i64 0]),.p 2 0 [.bool false,.string ⟨#[]⟩,.int .i64 0],.v 5 (.int .i64 0)]) (fun p5=>[(2,pT (p1 0).N 0),(3,pT (p1 1).N 0),(4,pT (p1 2).N 0),(5,.int .i64 0),(6,.int .i64 0),(15,.bool false),(18,.bool true)]) (fun p5=>?_) (fun p5 W5 T hF hK=>?_)
 ·refine okv ?_
  refine okl ?_
  iterate 2 refine okv ?_
  refine okl ?_
  iterate 2 refine okv ?_
  refine okp ?_
  refine okv ?_
  exact ok_nil
 obtain ⟨hS,hG⟩:=SymF.fg hS hF
 clear hF
 refine wp_ret ?_
 refine inb_r ?_
 refine then_r ?_
 exact sym_end hS hK (.tuple #[.agg #[.bool false,.string ⟨#[]⟩,.int .i64 0],.int .i64 0]) [(2,0,3)] [.bool false,.string ⟨#[]⟩,.int .i64 0] (by kernel_rfl) (by kernel_rfl) ⟨rfl,hS.fr⟩
theorem dadd_zz_ft (w:World) (s:ByteArray) (x:Int) (s2:ByteArray) (x2:Int) (ha:s.size = 0) (hb:s2.size = 0) (HC:Hid (∀ W:World,Calls Tryz.prog 35 #[.agg #[.bool false,.string s,.int .i64 x],.agg #[.bool true,.string s2,.int .i64 x2]] W fun e W'=>e = .returned (.int .i64 0)∧Below W.heap.size W W')) :
  Calls Tryz.prog 10 #[.agg #[.bool false,.string s,.int .i64 x],.agg #[.bool true,.string s2,.int .i64 x2]] w fun en w'=>en = .returned (.tuple #[.agg #[.bool false,.string ⟨#[]⟩,.int .i64 0],.int .i64 0])∧Below w.heap.size w w':=by
 refine calls_sym Tryz.func10 rfl (by kernel_rfl) fun T hK=>?_
 replace hK:Kn T _ [(0,.agg #[.bool false,.string s,.int .i64 x]),(1,.agg #[.bool true,.string s2,.int .i64 x2])]:=hK
 have hS:=Fb.begin w
 have hG:GsAt [] w:=trivial
 refine wq hS hG hK (fun p1=>[.n 2 #[.bool false,.string s,.int .i64 x] 23,.n 3 #[.bool true,.string s2,.int .i64 x2] 23,.n 4 #[.bool false,.string ⟨#[]⟩,.int .i64 0] 23,.v 5 (.int .i64 0)]) (fun p1=>[(2,pT (p1 0).N 0),(3,pT (p1 1).N 0),(4,pT (p1 2).N 0),(5,.int .i64 0)]) (fun p1=>?_) (fun p1 W1 T hF hK=>?_)
 ·iterate 3 refine okn ?_
  refine okv ?_
  exact ok_nil
 replace hS:=SymF.fc hS hF [1000,1001,1002] [⟨(p1 0).N,#[.bool false,.string s,.int .i64 x],23,true⟩,⟨(p1 1).N,#[.bool true,.string s2,.int .i64 x2],23,true⟩,⟨(p1 2).N,#[.bool false,.string ⟨#[]⟩,.int .i64 0],23,true⟩]
 replace hG:=hF.gx
 clear hF
 refine wp_seq ?_
 refine wq hS hG hK (fun p2=>[.l 11 (.agg #[.bool false,.string s,.int .i64 x]) 0 0,.l 12 (.agg #[.bool true,.string s2,.int .i64 x2]) 1 0,.c (some 13) (cV (.int .i64 0)),.v 6 (.int .i64 0)]) (fun p2=>[(2,pT (p1 0).N 0),(3,pT (p1 1).N 0),(4,pT (p1 2).N 0),(5,.int .i64 0),(6,.int .i64 0)]) (fun p2=>?_) (fun p2 W2 T hF hK=>?_)
 ·iterate 2 refine okl ?_
  refine okc (fun W cx=>as_v (unhide HC _)) ?_
  refine okv ?_
  exact ok_nil
 obtain ⟨hS,hG⟩:=SymF.fg hS hF
 clear hF
 refine wq hS hG hK (fun p3=>[.v 14 (.int .i64 0),.v 15 (.bool false)]) (fun p3=>[(2,pT (p1 0).N 0),(3,pT (p1 1).N 0),(4,pT (p1 2).N 0),(5,.int .i64 0),(6,.int .i64 0),(15,.bool false)]) (fun p3=>?_) (fun p3 W3 T hF hK=>?_)
 ·iterate 2 refine okv ?_
  exact ok_nil
 obtain ⟨hS,hG⟩:=SymF.fg hS hF
 clear hF
 refine wp_cond_false (hK.ew 15) (wp_skip ?_)
 refine then_n (wp_seq (wp_block ?_))
 refine wq hS hG hK (fun p4=>[.l 19 (.agg #[.bool false,.string s,.int .i64 x]) 0 0,.c (some 20) (cV (.bool true)),.v 21 (.bool true),.l 22 (.agg #[.bool true,.string s2,.int .i64 x2]) 1 0,.c (some 23) (cV (.bool true)),.v 24 (.bool true),.v 18 (.bool true)]) (fun p4=>[(2,pT (p1 0).N 0),(3,pT (p1 1).N 0),(4,pT (p1 2).N 0),(5,.int .i64 0),(6,.int .i64 0),(15,.bool false),(18,.bool true)]) (fun p4=>?_) (fun p4 W4 T hF hK=>?_)
 ·refine okl ?_
  refine okc (fun W cx=>as_v (isN_t _ false s x ha)) ?_
  refine okv ?_
  refine okl ?_
  refine okc (fun W cx=>as_v (isN_t _ true s2 x2 hb)) ?_
  iterate 2 refine okv ?_
  exact ok_nil
 obtain ⟨hS,hG⟩:=SymF.fg hS hF
 clear hF
 refine wp_cond_true (hK.ew 18) ?_
 refine wq hS hG hK (fun p5=>[.v 25 (pT (p1 0).N 0),.l 26 (.bool false) 0 0,.v 27 (.bool false),.k (some 28),.k (some 29),.v 30 (.bool false),.v 31 (.agg #[.bool false,.string ⟨#[]⟩,.int .i64 0]),.p 2 0 [.bool false,.string ⟨#[]⟩,.int .i64 0],.v 5 (.int .i64 0)]) (fun p5=>[(2,pT (p1 0).N 0),(3,pT (p1 1).N 0),(4,pT (p1 2).N 0),(5,.int .i64 0),(6,.int .i64 0),(15,.bool false),(18,.bool true)]) (fun p5=>?_) (fun p5 W5 T hF hK=>?_)
 ·refine okv ?_
  refine okl ?_
  refine okv ?_
  iterate 2 refine okk ?_
  iterate 2 refine okv ?_
  refine okp ?_
  refine okv ?_
  exact ok_nil
 obtain ⟨hS,hG⟩:=SymF.fg hS hF
 clear hF
 refine wp_ret ?_
 refine inb_r ?_
 refine then_r ?_
 exact sym_end hS hK (.tuple #[.agg #[.bool false,.string ⟨#[]⟩,.int .i64 0],.int .i64 0]) [(2,0,3)] [.bool false,.string ⟨#[]⟩,.int .i64 0] (by kernel_rfl) (by kernel_rfl) ⟨rfl,hS.fr⟩
theorem dadd_zz_ff (w:World) (s:ByteArray) (x:Int) (s2:ByteArray) (x2:Int) (ha:s.size = 0) (hb:s2.size = 0) (HC:Hid (∀ W:World,Calls Tryz.prog 35 #[.agg #[.bool false,.string s,.int .i64 x],.agg #[.bool false,.string s2,.int .i64 x2]] W fun e W'=>e = .returned (.int .i64 0)∧Below W.heap.size W W')) :
  Calls Tryz.prog 10 #[.agg #[.bool false,.string s,.int .i64 x],.agg #[.bool false,.string s2,.int .i64 x2]] w fun en w'=>en = .returned (.tuple #[.agg #[.bool false,.string ⟨#[]⟩,.int .i64 0],.int .i64 0])∧Below w.heap.size w w':=by
 refine calls_sym Tryz.func10 rfl (by kernel_rfl) fun T hK=>?_
 replace hK:Kn T _ [(0,.agg #[.bool false,.string s,.int .i64 x]),(1,.agg #[.bool false,.string s2,.int .i64 x2])]:=hK
 have hS:=Fb.begin w
 have hG:GsAt [] w:=trivial
 refine wq hS hG hK (fun p1=>[.n 2 #[.bool false,.string s,.int .i64 x] 23,.n 3 #[.bool false,.string s2,.int .i64 x2] 23,.n 4 #[.bool false,.string ⟨#[]⟩,.int .i64 0] 23,.v 5 (.int .i64 0)]) (fun p1=>[(2,pT (p1 0).N 0),(3,pT (p1 1).N 0),(4,pT (p1 2).N 0),(5,.int .i64 0)]) (fun p1=>?_) (fun p1 W1 T hF hK=>?_)
 ·iterate 3 refine okn ?_
  refine okv ?_
  exact ok_nil
 replace hS:=SymF.fc hS hF [1000,1001,1002] [⟨(p1 0).N,#[.bool false,.string s,.int .i64 x],23,true⟩,⟨(p1 1).N,#[.bool false,.string s2,.int .i64 x2],23,true⟩,⟨(p1 2).N,#[.bool false,.string ⟨#[]⟩,.int .i64 0],23,true⟩]
 replace hG:=hF.gx
 clear hF
 refine wp_seq ?_
 refine wq hS hG hK (fun p2=>[.l 11 (.agg #[.bool false,.string s,.int .i64 x]) 0 0,.l 12 (.agg #[.bool false,.string s2,.int .i64 x2]) 1 0,.c (some 13) (cV (.int .i64 0)),.v 6 (.int .i64 0)]) (fun p2=>[(2,pT (p1 0).N 0),(3,pT (p1 1).N 0),(4,pT (p1 2).N 0),(5,.int .i64 0),(6,.int .i64 0)]) (fun p2=>?_) (fun p2 W2 T hF hK=>?_)
 ·iterate 2 refine okl ?_
  refine okc (fun W cx=>as_v (unhide HC _)) ?_
  refine okv ?_
  exact ok_nil
 obtain ⟨hS,hG⟩:=SymF.fg hS hF
 clear hF
 refine wq hS hG hK (fun p3=>[.v 14 (.int .i64 0),.v 15 (.bool false)]) (fun p3=>[(2,pT (p1 0).N 0),(3,pT (p1 1).N 0),(4,pT (p1 2).N 0),(5,.int .i64 0),(6,.int .i64 0),(15,.bool false)]) (fun p3=>?_) (fun p3 W3 T hF hK=>?_)
 ·iterate 2 refine okv ?_
  exact ok_nil
 obtain ⟨hS,hG⟩:=SymF.fg hS hF
 clear hF
 refine wp_cond_false (hK.ew 15) (wp_skip ?_)
 refine then_n (wp_seq (wp_block ?_))
 refine wq hS hG hK (fun p4=>[.l 19 (.agg #[.bool false,.string s,.int .i64 x]) 0 0,.c (some 20) (cV (.bool true)),.v 21 (.bool true),.l 22 (.agg #[.bool false,.string s2,.int .i64 x2]) 1 0,.c (some 23) (cV (.bool true)),.v 24 (.bool true),.v 18 (.bool true)]) (fun p4=>[(2,pT (p1 0).N 0),(3,pT (p1 1).N 0),(4,pT (p1 2).N 0),(5,.int .i64 0),(6,.int .i64 0),(15,.bool false),(18,.bool true)]) (fun p4=>?_) (fun p4 W4 T hF hK=>?_)
 ·refine okl ?_
  refine okc (fun W cx=>as_v (isN_t _ false s x ha)) ?_
  refine okv ?_
  refine okl ?_
  refine okc (fun W cx=>as_v (isN_t _ false s2 x2 hb)) ?_
  iterate 2 refine okv ?_
  exact ok_nil
 obtain ⟨hS,hG⟩:=SymF.fg hS hF
 clear hF
 refine wp_cond_true (hK.ew 18) ?_
 refine wq hS hG hK (fun p5=>[.v 25 (pT (p1 0).N 0),.l 26 (.bool false) 0 0,.v 27 (.bool false),.k (some 28),.k (some 29),.v 30 (.bool false),.v 31 (.agg #[.bool false,.string ⟨#[]⟩,.int .i64 0]),.p 2 0 [.bool false,.string ⟨#[]⟩,.int .i64 0],.v 5 (.int .i64 0)]) (fun p5=>[(2,pT (p1 0).N 0),(3,pT (p1 1).N 0),(4,pT (p1 2).N 0),(5,.int .i64 0),(6,.int .i64 0),(15,.bool false),(18,.bool true)]) (fun p5=>?_) (fun p5 W5 T hF hK=>?_)
 ·refine okv ?_
  refine okl ?_
  refine okv ?_
  iterate 2 refine okk ?_
  iterate 2 refine okv ?_
  refine okp ?_
  refine okv ?_
  exact ok_nil
 obtain ⟨hS,hG⟩:=SymF.fg hS hF
 clear hF
 refine wp_ret ?_
 refine inb_r ?_
 refine then_r ?_
 exact sym_end hS hK (.tuple #[.agg #[.bool false,.string ⟨#[]⟩,.int .i64 0],.int .i64 0]) [(2,0,3)] [.bool false,.string ⟨#[]⟩,.int .i64 0] (by kernel_rfl) (by kernel_rfl) ⟨rfl,hS.fr⟩
theorem dadd_z1 (w:World) (g:Bool) (s:ByteArray) (x:Int) (g2:Bool) (s2:ByteArray) (x2:Int) (ha:s.size = 0) (hb:s2.size≠0) (hm:s2.size≤281474976710656) (HC:Hid (∀ W:World,Calls Tryz.prog 35 #[.agg #[.bool g,.string s,.int .i64 x],.agg #[.bool g2,.string s2,.int .i64 x2]] W fun e W'=>e = .returned (.int .i64 0)∧Below W.heap.size W W')) :
  Calls Tryz.prog 10 #[.agg #[.bool g,.string s,.int .i64 x],.agg #[.bool g2,.string s2,.int .i64 x2]] w fun en w'=>en = .returned (.tuple #[.agg #[.bool g2,.string s2,.int .i64 x2],.int .i64 0])∧Below w.heap.size w w':=by
 refine calls_sym Tryz.func10 rfl (by kernel_rfl) fun T hK=>?_
 replace hK:Kn T _ [(0,.agg #[.bool g,.string s,.int .i64 x]),(1,.agg #[.bool g2,.string s2,.int .i64 x2])]:=hK
 have hS:=Fb.begin w
 have hG:GsAt [] w:=trivial
 refine wq hS hG hK (fun p1=>[.n 2 #[.bool g,.string s,.int .i64 x] 23,.n 3 #[.bool g2,.string s2,.int .i64 x2] 23,.n 4 #[.bool false,.string ⟨#[]⟩,.int .i64 0] 23,.v 5 (.int .i64 0)]) (fun p1=>[(2,pT (p1 0).N 0),(3,pT (p1 1).N 0),(4,pT (p1 2).N 0),(5,.int .i64 0)]) (fun p1=>?_) (fun p1 W1 T hF hK=>?_)
 ·iterate 3 refine okn ?_
  refine okv ?_
  exact ok_nil
 replace hS:=SymF.fc hS hF [1000,1001,1002] [⟨(p1 0).N,#[.bool g,.string s,.int .i64 x],23,true⟩,⟨(p1 1).N,#[.bool g2,.string s2,.int .i64 x2],23,true⟩,⟨(p1 2).N,#[.bool false,.string ⟨#[]⟩,.int .i64 0],23,true⟩]
 replace hG:=hF.gx
 clear hF
 refine wp_seq ?_
 refine wq hS hG hK (fun p2=>[.l 11 (.agg #[.bool g,.string s,.int .i64 x]) 0 0,.l 12 (.agg #[.bool g2,.string s2,.int .i64 x2]) 1 0,.c (some 13) (cV (.int .i64 0)),.v 6 (.int .i64 0)]) (fun p2=>[(2,pT (p1 0).N 0),(3,pT (p1 1).N 0),(4,pT (p1 2).N 0),(5,.int .i64 0),(6,.int .i64 0)]) (fun p2=>?_) (fun p2 W2 T hF hK=>?_)
 ·iterate 2 refine okl ?_
  refine okc (fun W cx=>as_v (unhide HC _)) ?_
  refine okv ?_
  exact ok_nil
 obtain ⟨hS,hG⟩:=SymF.fg hS hF
 clear hF
 refine wq hS hG hK (fun p3=>[.v 14 (.int .i64 0),.v 15 (.bool false)]) (fun p3=>[(2,pT (p1 0).N 0),(3,pT (p1 1).N 0),(4,pT (p1 2).N 0),(5,.int .i64 0),(6,.int .i64 0),(15,.bool false)]) (fun p3=>?_) (fun p3 W3 T hF hK=>?_)
 ·iterate 2 refine okv ?_
  exact ok_nil
 obtain ⟨hS,hG⟩:=SymF.fg hS hF
 clear hF
 refine wp_cond_false (hK.ew 15) (wp_skip ?_)
 refine then_n (wp_seq (wp_block ?_))
 refine wq hS hG hK (fun p4=>[.l 19 (.agg #[.bool g,.string s,.int .i64 x]) 0 0,.c (some 20) (cV (.bool true)),.v 21 (.bool true),.l 22 (.agg #[.bool g2,.string s2,.int .i64 x2]) 1 0,.c (some 23) (cV (.bool false)),.v 24 (.bool false),.v 18 (.bool false)]) (fun p4=>[(2,pT (p1 0).N 0),(3,pT (p1 1).N 0),(4,pT (p1 2).N 0),(5,.int .i64 0),(6,.int .i64 0),(15,.bool false),(18,.bool false)]) (fun p4=>?_) (fun p4 W4 T hF hK=>?_)
 ·refine okl ?_
  refine okc (fun W cx=>as_v (isN_t _ g s x ha)) ?_
  refine okv ?_
  refine okl ?_
  refine okc (fun W cx=>as_v (isN_f _ g2 s2 x2 hb)) ?_
  iterate 2 refine okv ?_
  exact ok_nil
 obtain ⟨hS,hG⟩:=SymF.fg hS hF
 clear hF
 refine wp_cond_false (hK.ew 18) ?_
 refine wq hS hG hK (fun p5=>[.l 33 (.agg #[.bool g,.string s,.int .i64 x]) 0 0,.c (some 34) (cV (.bool true)),.v 32 (.bool true)]) (fun p5=>[(2,pT (p1 0).N 0),(3,pT (p1 1).N 0),(4,pT (p1 2).N 0),(5,.int .i64 0),(6,.int .i64 0),(15,.bool false),(18,.bool false),(32,.bool true)]) (fun p5=>?_) (fun p5 W5 T hF hK=>?_)
 ·refine okl ?_
  refine okc (fun W cx=>as_v (isN_t _ g s x ha)) ?_
  refine okv ?_
  exact ok_nil
 obtain ⟨hS,hG⟩:=SymF.fg hS hF
 clear hF
 refine wp_cond_true (hK.ew 32) ?_
 refine wq hS hG hK (fun p6=>[.l 35 (.agg #[.bool g2,.string s2,.int .i64 x2]) 1 0,.c (some 36) (cV (.agg #[.bool g2,.string s2,.int .i64 x2])),.p 2 0 [.bool g2,.string s2,.int .i64 x2],.v 5 (.int .i64 0)]) (fun p6=>[(2,pT (p1 0).N 0),(3,pT (p1 1).N 0),(4,pT (p1 2).N 0),(5,.int .i64 0),(6,.int .i64 0),(15,.bool false),(18,.bool false),(32,.bool true)]) (fun p6=>?_) (fun p6 W6 T hF hK=>?_)
 ·refine okl ?_
  refine okc (fun W cx=>as_v (dcopied_any _ g2 s2 x2 hm)) ?_
  refine okp ?_
  refine okv ?_
  exact ok_nil
 replace hS:=SymF.fc hS hF [0,1,2] [⟨(p1 0).N,#[.bool g,.string s,.int .i64 x],23,true⟩,⟨(p1 1).N,#[.bool g2,.string s2,.int .i64 x2],23,true⟩,⟨(p1 2).N,#[.bool g2,.string s2,.int .i64 x2],23,true⟩]
 replace hG:=hF.gx
 clear hF
 refine wp_ret ?_
 refine inb_r ?_
 refine then_r ?_
 exact sym_end hS hK (.tuple #[.agg #[.bool g2,.string s2,.int .i64 x2],.int .i64 0]) [(2,0,3)] [.bool g2,.string s2,.int .i64 x2] (by kernel_rfl) (by kernel_rfl) ⟨rfl,hS.fr⟩
theorem dadd_z2 (w:World) (g:Bool) (s:ByteArray) (x:Int) (g2:Bool) (s2:ByteArray) (x2:Int) (ha:s.size≠0) (hb:s2.size = 0) (hm:s.size≤281474976710656) (HC:Hid (∀ W:World,Calls Tryz.prog 35 #[.agg #[.bool g,.string s,.int .i64 x],.agg #[.bool g2,.string s2,.int .i64 x2]] W fun e W'=>e = .returned (.int .i64 0)∧Below W.heap.size W W')) :
  Calls Tryz.prog 10 #[.agg #[.bool g,.string s,.int .i64 x],.agg #[.bool g2,.string s2,.int .i64 x2]] w fun en w'=>en = .returned (.tuple #[.agg #[.bool g,.string s,.int .i64 x],.int .i64 0])∧Below w.heap.size w w':=by
 refine calls_sym Tryz.func10 rfl (by kernel_rfl) fun T hK=>?_
 replace hK:Kn T _ [(0,.agg #[.bool g,.string s,.int .i64 x]),(1,.agg #[.bool g2,.string s2,.int .i64 x2])]:=hK
 have hS:=Fb.begin w
 have hG:GsAt [] w:=trivial
 refine wq hS hG hK (fun p1=>[.n 2 #[.bool g,.string s,.int .i64 x] 23,.n 3 #[.bool g2,.string s2,.int .i64 x2] 23,.n 4 #[.bool false,.string ⟨#[]⟩,.int .i64 0] 23,.v 5 (.int .i64 0)]) (fun p1=>[(2,pT (p1 0).N 0),(3,pT (p1 1).N 0),(4,pT (p1 2).N 0),(5,.int .i64 0)]) (fun p1=>?_) (fun p1 W1 T hF hK=>?_)
 ·iterate 3 refine okn ?_
  refine okv ?_
  exact ok_nil
 replace hS:=SymF.fc hS hF [1000,1001,1002] [⟨(p1 0).N,#[.bool g,.string s,.int .i64 x],23,true⟩,⟨(p1 1).N,#[.bool g2,.string s2,.int .i64 x2],23,true⟩,⟨(p1 2).N,#[.bool false,.string ⟨#[]⟩,.int .i64 0],23,true⟩]
 replace hG:=hF.gx
 clear hF
 refine wp_seq ?_
 refine wq hS hG hK (fun p2=>[.l 11 (.agg #[.bool g,.string s,.int .i64 x]) 0 0,.l 12 (.agg #[.bool g2,.string s2,.int .i64 x2]) 1 0,.c (some 13) (cV (.int .i64 0)),.v 6 (.int .i64 0)]) (fun p2=>[(2,pT (p1 0).N 0),(3,pT (p1 1).N 0),(4,pT (p1 2).N 0),(5,.int .i64 0),(6,.int .i64 0)]) (fun p2=>?_) (fun p2 W2 T hF hK=>?_)
 ·iterate 2 refine okl ?_
  refine okc (fun W cx=>as_v (unhide HC _)) ?_
  refine okv ?_
  exact ok_nil
 obtain ⟨hS,hG⟩:=SymF.fg hS hF
 clear hF
 refine wq hS hG hK (fun p3=>[.v 14 (.int .i64 0),.v 15 (.bool false)]) (fun p3=>[(2,pT (p1 0).N 0),(3,pT (p1 1).N 0),(4,pT (p1 2).N 0),(5,.int .i64 0),(6,.int .i64 0),(15,.bool false)]) (fun p3=>?_) (fun p3 W3 T hF hK=>?_)
 ·iterate 2 refine okv ?_
  exact ok_nil
 obtain ⟨hS,hG⟩:=SymF.fg hS hF
 clear hF
 refine wp_cond_false (hK.ew 15) (wp_skip ?_)
 refine then_n (wp_seq (wp_block ?_))
 refine wq hS hG hK (fun p4=>[.l 19 (.agg #[.bool g,.string s,.int .i64 x]) 0 0,.c (some 20) (cV (.bool false)),.v 21 (.bool false),.k (some 22),.k (some 23),.v 24 (.bool false),.v 18 (.bool false)]) (fun p4=>[(2,pT (p1 0).N 0),(3,pT (p1 1).N 0),(4,pT (p1 2).N 0),(5,.int .i64 0),(6,.int .i64 0),(15,.bool false),(18,.bool false)]) (fun p4=>?_) (fun p4 W4 T hF hK=>?_)
 ·refine okl ?_
  refine okc (fun W cx=>as_v (isN_f _ g s x ha)) ?_
  refine okv ?_
  iterate 2 refine okk ?_
  iterate 2 refine okv ?_
  exact ok_nil
 obtain ⟨hS,hG⟩:=SymF.fg hS hF
 clear hF
 refine wp_cond_false (hK.ew 18) ?_
 refine wq hS hG hK (fun p5=>[.l 33 (.agg #[.bool g,.string s,.int .i64 x]) 0 0,.c (some 34) (cV (.bool false)),.v 32 (.bool false)]) (fun p5=>[(2,pT (p1 0).N 0),(3,pT (p1 1).N 0),(4,pT (p1 2).N 0),(5,.int .i64 0),(6,.int .i64 0),(15,.bool false),(18,.bool false),(32,.bool false)]) (fun p5=>?_) (fun p5 W5 T hF hK=>?_)
 ·refine okl ?_
  refine okc (fun W cx=>as_v (isN_f _ g s x ha)) ?_
  refine okv ?_
  exact ok_nil
 obtain ⟨hS,hG⟩:=SymF.fg hS hF
 clear hF
 refine wp_cond_false (hK.ew 32) ?_
 refine wq hS hG hK (fun p6=>[.l 38 (.agg #[.bool g2,.string s2,.int .i64 x2]) 1 0,.c (some 39) (cV (.bool true)),.v 37 (.bool true)]) (fun p6=>[(2,pT (p1 0).N 0),(3,pT (p1 1).N 0),(4,pT (p1 2).N 0),(5,.int .i64 0),(6,.int .i64 0),(15,.bool false),(18,.bool false),(32,.bool false),(37,.bool true)]) (fun p6=>?_) (fun p6 W6 T hF hK=>?_)
 ·refine okl ?_
  refine okc (fun W cx=>as_v (isN_t _ g2 s2 x2 hb)) ?_
  refine okv ?_
  exact ok_nil
 obtain ⟨hS,hG⟩:=SymF.fg hS hF
 clear hF
 refine wp_cond_true (hK.ew 37) ?_
 refine wq hS hG hK (fun p7=>[.l 40 (.agg #[.bool g,.string s,.int .i64 x]) 0 0,.c (some 41) (cV (.agg #[.bool g,.string s,.int .i64 x])),.p 2 0 [.bool g,.string s,.int .i64 x],.v 5 (.int .i64 0)]) (fun p7=>[(2,pT (p1 0).N 0),(3,pT (p1 1).N 0),(4,pT (p1 2).N 0),(5,.int .i64 0),(6,.int .i64 0),(15,.bool false),(18,.bool false),(32,.bool false),(37,.bool true)]) (fun p7=>?_) (fun p7 W7 T hF hK=>?_)
 ·refine okl ?_
  refine okc (fun W cx=>as_v (dcopied_any _ g s x hm)) ?_
  refine okp ?_
  refine okv ?_
  exact ok_nil
 replace hS:=SymF.fc hS hF [0,1,2] [⟨(p1 0).N,#[.bool g,.string s,.int .i64 x],23,true⟩,⟨(p1 1).N,#[.bool g2,.string s2,.int .i64 x2],23,true⟩,⟨(p1 2).N,#[.bool g,.string s,.int .i64 x],23,true⟩]
 replace hG:=hF.gx
 clear hF
 refine wp_ret ?_
 refine inb_r ?_
 refine then_r ?_
 exact sym_end hS hK (.tuple #[.agg #[.bool g,.string s,.int .i64 x],.int .i64 0]) [(2,0,3)] [.bool g,.string s,.int .i64 x] (by kernel_rfl) (by kernel_rfl) ⟨rfl,hS.fr⟩
end Go.Proofs.YtpmmapoabbpaiaaGreat
