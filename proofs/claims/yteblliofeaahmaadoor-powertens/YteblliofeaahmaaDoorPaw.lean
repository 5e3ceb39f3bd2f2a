/- Of what PowerTensRow stands on: PwRefW PwTenM PwTenLaw. -/
import Derived.Test.YteblliofeaahmaaDoorPav
namespace Go.Proofs.YteblliofeaahmaaDoor
open Go.RowKit
set_option maxHeartbeats 2000000
set_option maxRecDepth 20000
theorem rfar_t1 (w:World) (k:Int) (hk:k < -400) :
  Calls Tryd.prog 22 #[.int .i64 k] w fun en w'=>en = .returned (.bool true)∧Below w.heap.size w w':=by
 refine calls_sym Tryd.func22 rfl (by kernel_rfl) fun T hK=>?_
 replace hK:Kn T _ [(0,.int .i64 k)]:=hK
 have hS:=Fb.begin w
 have hG:GsAt [] w:=trivial
 refine wp_symQ hS hG hK (fun p1=>[.v 2 (.bool false)]) (fun p1=>[(0,.int .i64 k),(2,.bool false)]) (by kernel_rfl) (fun _ _=>by kernel_rfl) (fun _=>by kernel_rfl) (fun _=>by kernel_rfl) (fun p1=>?_) (fun p1 W1 T hF hK=>?_)
 ·refine ok_v (by kernel_rfl) ?_
  exact ok_nil
 replace hS:=SymF.fb hS hF [] [] (by kernel_rfl) (by kernel_rfl)
 replace hG:=hF.gx
 clear hF
 have z1:=hS.fr.size
 refine wp_symQ hS hG hK (fun p2=>[.v 3 (.int .i64 k),.v 4 (.bool true),.v 5 (.bool true),.k (some 6),.k (some 7),.v 8 (.bool true),.v 2 (.bool true)]) (fun p2=>[(2,.bool true)]) (by kernel_rfl) (fun _ _=>by kernel_rfl) (fun _=>by kernel_rfl) (fun _=>by kernel_rfl) (fun p2=>?_) (fun p2 W2 T hF hK=>?_)
 ·refine ok_v (by kernel_rfl) ?_
  refine ok_vb (decide_eq_true (show k < (-400) by omega)) (by kernel_rfl) ?_
  refine ok_v (by kernel_rfl) ?_
  iterate 2 refine ok_K (by kernel_rfl) ?_
  iterate 2 refine ok_v (by kernel_rfl) ?_
  exact ok_nil
 replace hS:=SymF.fb hS hF [] [] (by kernel_rfl) (by kernel_rfl)
 replace hG:=hF.gx
 clear hF
 have z2:=hS.fr.size
 refine wp_ret ?_
 exact sym_end hS hK (.bool true) [] [] (by kernel_rfl) (by kernel_rfl) ⟨rfl,hS.fr⟩
theorem rfar_t2 (w:World) (k:Int) (hk:400 < k) :
  Calls Tryd.prog 22 #[.int .i64 k] w fun en w'=>en = .returned (.bool true)∧Below w.heap.size w w':=by
 refine calls_sym Tryd.func22 rfl (by kernel_rfl) fun T hK=>?_
 replace hK:Kn T _ [(0,.int .i64 k)]:=hK
 have hS:=Fb.begin w
 have hG:GsAt [] w:=trivial
 refine wp_symQ hS hG hK (fun p1=>[.v 2 (.bool false)]) (fun p1=>[(0,.int .i64 k),(2,.bool false)]) (by kernel_rfl) (fun _ _=>by kernel_rfl) (fun _=>by kernel_rfl) (fun _=>by kernel_rfl) (fun p1=>?_) (fun p1 W1 T hF hK=>?_)
 ·refine ok_v (by kernel_rfl) ?_
  exact ok_nil
 replace hS:=SymF.fb hS hF [] [] (by kernel_rfl) (by kernel_rfl)
 replace hG:=hF.gx
 clear hF
 have z1:=hS.fr.size
 refine wp_symQ hS hG hK (fun p2=>[.v 3 (.int .i64 k),.v 4 (.bool false),.v 5 (.bool false),.v 6 (.int .i64 k),.v 7 (.bool true),.v 8 (.bool true),.v 2 (.bool true)]) (fun p2=>[(2,.bool true)]) (by kernel_rfl) (fun _ _=>by kernel_rfl) (fun _=>by kernel_rfl) (fun _=>by kernel_rfl) (fun p2=>?_) (fun p2 W2 T hF hK=>?_)
 ·refine ok_v (by kernel_rfl) ?_
  refine ok_vb (decide_eq_false (show ¬ k < (-400) by omega)) (by kernel_rfl) ?_
  iterate 2 refine ok_v (by kernel_rfl) ?_
  refine ok_vb (decide_eq_true (show k > 400 by omega)) (by kernel_rfl) ?_
  iterate 2 refine ok_v (by kernel_rfl) ?_
  exact ok_nil
 replace hS:=SymF.fb hS hF [] [] (by kernel_rfl) (by kernel_rfl)
 replace hG:=hF.gx
 clear hF
 have z2:=hS.fr.size
 refine wp_ret ?_
 exact sym_end hS hK (.bool true) [] [] (by kernel_rfl) (by kernel_rfl) ⟨rfl,hS.fr⟩
theorem rfar_t (w:World) (k:Int) (hk:k < -400∨400 < k):Calls Tryd.prog 22 #[.int .i64 k] w fun en w'=>en = .returned (.bool true)∧Below w.heap.size w w':=hk.elim (rfar_t1 w k) (rfar_t2 w k)
theorem pmax_p (j:Nat):(if (-(j:Int)) > (j:Int) then (-(j:Int)) else (j:Int)) = (j:Int):=by split <;> omega
theorem pmax_n (j:Nat):(if (j:Int) > (-(j:Int)) then (j:Int) else (-(j:Int))) = (j:Int):=by split <;> omega
theorem rfar_f (w:World) (k:Int) (hk:-400≤k∧k≤400) :
  Calls Tryd.prog 22 #[.int .i64 k] w fun en w'=>en = .returned (.bool false)∧Below w.heap.size w w':=by
 refine calls_sym Tryd.func22 rfl (by kernel_rfl) fun T hK=>?_
 replace hK:Kn T _ [(0,.int .i64 k)]:=hK
 have hS:=Fb.begin w
 have hG:GsAt [] w:=trivial
 refine wp_symQ hS hG hK (fun p1=>[.v 2 (.bool false)]) (fun p1=>[(0,.int .i64 k),(2,.bool false)]) (by kernel_rfl) (fun _ _=>by kernel_rfl) (fun _=>by kernel_rfl) (fun _=>by kernel_rfl) (fun p1=>?_) (fun p1 W1 T hF hK=>?_)
 ·refine ok_v (by kernel_rfl) ?_
  exact ok_nil
 replace hS:=SymF.fb hS hF [] [] (by kernel_rfl) (by kernel_rfl)
 replace hG:=hF.gx
 clear hF
 have z1:=hS.fr.size
 refine wp_symQ hS hG hK (fun p2=>[.v 3 (.int .i64 k),.v 4 (.bool false),.v 5 (.bool false),.v 6 (.int .i64 k),.v 7 (.bool false),.v 8 (.bool false),.v 2 (.bool false)]) (fun p2=>[(2,.bool false)]) (by kernel_rfl) (fun _ _=>by kernel_rfl) (fun _=>by kernel_rfl) (fun _=>by kernel_rfl) (fun p2=>?_) (fun p2 W2 T hF hK=>?_)
 ·refine ok_v (by kernel_rfl) ?_
  refine ok_vb (decide_eq_false (show ¬ k < (-400) by omega)) (by kernel_rfl) ?_
  iterate 2 refine ok_v (by kernel_rfl) ?_
  refine ok_vb (decide_eq_false (show ¬ k > 400 by omega)) (by kernel_rfl) ?_
  iterate 2 refine ok_v (by kernel_rfl) ?_
  exact ok_nil
 replace hS:=SymF.fb hS hF [] [] (by kernel_rfl) (by kernel_rfl)
 replace hG:=hF.gx
 clear hF
 have z2:=hS.fr.size
 refine wp_ret ?_
 exact sym_end hS hK (.bool false) [] [] (by kernel_rfl) (by kernel_rfl) ⟨rfl,hS.fr⟩
theorem rdiv_is (w:World) (a:Option Addr) (n c m:Nat) (a':Option Addr) (n' c' d ka kb:Nat) (h:Num w a n m) (h':Num w a' n' d) (hka:Bl m ka) (hkb:Bl d kb) (hle:kb≤ka) (hd:0 < d) (hm:0 < m) (hn:n'≠0) :
  Calls Tryd.prog 47 #[.agg #[.slice a n c],.agg #[.slice a' n' c']] w fun en w'=>(∃ a1 n1 c1 a2 n2 c2,en = .returned (.tuple #[.agg #[.slice a1 n1 c1],.agg #[.slice a2 n2 c2],.int .i64 0])∧Mine w' w.heap.size a1 n1 c1 (m / d)∧Mine w' w.heap.size a2 n2 c2 (m % d))∧Below w.heap.size w w':=by
 refine calls_sym Tryd.func47 rfl (by kernel_rfl) fun T hK=>?_
 replace hK:Kn T _ [(0,.agg #[.slice a n c]),(1,.agg #[.slice a' n' c'])]:=hK
 have hS:=Fb.begin w
 have hG:GsAt [gN a n m,gN a' n' d] w:=⟨h,h',trivial⟩
 refine wp_symQ hS hG hK (fun p1=>[.n 2 #[.slice a n c] 65,.n 3 #[.slice a' n' c'] 65,.n 4 #[.slice none 0 0] 65,.n 5 #[.slice none 0 0] 65,.v 6 (.int .i64 0)]) (fun p1=>[(2,.pointer (some ⟨(p1 0).N,0,none⟩)),(3,.pointer (some ⟨(p1 1).N,0,none⟩)),(4,.pointer (some ⟨(p1 2).N,0,none⟩)),(5,.pointer (some ⟨(p1 3).N,0,none⟩)),(6,.int .i64 0)]) (by kernel_rfl) (fun _ _=>by kernel_rfl) (fun _=>by kernel_rfl) (fun _=>by kernel_rfl) (fun p1=>?_) (fun p1 W1 T hF hK=>?_)
 ·iterate 4 refine ok_n (fun _=>by kernel_rfl) ?_
  refine ok_v (by kernel_rfl) ?_
  exact ok_nil
 replace hS:=SymF.fb hS hF [1000,1001,1002,1003] [⟨(p1 0).N,#[.slice a n c],65,true⟩,⟨(p1 1).N,#[.slice a' n' c'],65,true⟩,⟨(p1 2).N,#[.slice none 0 0],65,true⟩,⟨(p1 3).N,#[.slice none 0 0],65,true⟩] (by kernel_rfl) (by kernel_rfl)
 replace hG:=hF.gx
 clear hF
 have z1:=hS.fr.size
 refine wp_symQ hS hG hK (fun p2=>[.l 10 (.agg #[.slice a n c]) 0 0,.l 11 (.agg #[.slice a' n' c']) 1 0,.c (some 12) (cV (.int .i64 0)),.v 7 (.int .i64 0)]) (fun p2=>[(2,.pointer (some ⟨(p1 0).N,0,none⟩)),(3,.pointer (some ⟨(p1 1).N,0,none⟩)),(4,.pointer (some ⟨(p1 2).N,0,none⟩)),(5,.pointer (some ⟨(p1 3).N,0,none⟩)),(6,.int .i64 0),(7,.int .i64 0)]) (by kernel_rfl) (fun _ _=>by kernel_rfl) (fun _=>by kernel_rfl) (fun _=>by kernel_rfl) (fun p2=>?_) (fun p2 W2 T hF hK=>?_)
 ·iterate 2 refine ok_L (by kernel_rfl) (by kernel_rfl) (by kernel_rfl) ?_
  refine ok_c (fun W cx=>as_v (rtwo_num _ _ _ _ c c' _ _ _ (cx.G.1) (cx.G.2.1))) (by kernel_rfl) ?_
  refine ok_v (by kernel_rfl) ?_
  exact ok_nil
 replace hS:=SymF.fb hS hF [0,1,2,3] [⟨(p1 0).N,#[.slice a n c],65,true⟩,⟨(p1 1).N,#[.slice a' n' c'],65,true⟩,⟨(p1 2).N,#[.slice none 0 0],65,true⟩,⟨(p1 3).N,#[.slice none 0 0],65,true⟩] (by kernel_rfl) (by kernel_rfl)
 replace hG:=hF.gx
 clear hF
 have z2:=hS.fr.size
 refine wp_seq ?_
 refine wp_symQ hS hG hK (fun p3=>[.v 13 (.int .i64 0),.v 14 (.bool false)]) (fun p3=>[(2,.pointer (some ⟨(p1 0).N,0,none⟩)),(3,.pointer (some ⟨(p1 1).N,0,none⟩)),(4,.pointer (some ⟨(p1 2).N,0,none⟩)),(5,.pointer (some ⟨(p1 3).N,0,none⟩)),(6,.int .i64 0),(7,.int .i64 0),(14,.bool false)]) (by kernel_rfl) (fun _ _=>by kernel_rfl) (fun _=>by kernel_rfl) (fun _=>by kernel_rfl) (fun p3=>?_) (fun p3 W3 T hF hK=>?_)
 ·refine ok_v (by kernel_rfl) ?_
  refine ok_vb (rfl) (by kernel_rfl) ?_
  exact ok_nil
 replace hS:=SymF.fb hS hF [0,1,2,3] [⟨(p1 0).N,#[.slice a n c],65,true⟩,⟨(p1 1).N,#[.slice a' n' c'],65,true⟩,⟨(p1 2).N,#[.slice none 0 0],65,true⟩,⟨(p1 3).N,#[.slice none 0 0],65,true⟩] (by kernel_rfl) (by kernel_rfl)
 replace hG:=hF.gx
 clear hF
 have z3:=hS.fr.size
 refine wp_cond_false (hK.ev 14 (by kernel_rfl) _ (by kernel_rfl)) ?_
 refine wp_skip ?_
 refine then_n ?_
 refine wp_seq ?_
 refine wp_symQ hS hG hK (fun p4=>[.v 18 (.pointer (some ⟨(p1 1).N,0,none⟩)),.l 19 (.slice a' n' c') 1 0,.v 20 ((.int .i64 (n':Int))),.v 21 (.bool false)]) (fun p4=>[(2,.pointer (some ⟨(p1 0).N,0,none⟩)),(3,.pointer (some ⟨(p1 1).N,0,none⟩)),(4,.pointer (some ⟨(p1 2).N,0,none⟩)),(5,.pointer (some ⟨(p1 3).N,0,none⟩)),(6,.int .i64 0),(7,.int .i64 0),(14,.bool false),(21,.bool false)]) (by kernel_rfl) (fun _ _=>by kernel_rfl) (fun _=>by kernel_rfl) (fun _=>by kernel_rfl) (fun p4=>?_) (fun p4 W4 T hF hK=>?_)
 ·refine ok_v (by kernel_rfl) ?_
  refine ok_L (by kernel_rfl) (by kernel_rfl) (by kernel_rfl) ?_
  refine ok_v (by kernel_rfl) ?_
  refine ok_vb (beq_false_of_ne (show (n':Int)≠0 by omega)) (by kernel_rfl) ?_
  exact ok_nil
 replace hS:=SymF.fb hS hF [0,1,2,3] [⟨(p1 0).N,#[.slice a n c],65,true⟩,⟨(p1 1).N,#[.slice a' n' c'],65,true⟩,⟨(p1 2).N,#[.slice none 0 0],65,true⟩,⟨(p1 3).N,#[.slice none 0 0],65,true⟩] (by kernel_rfl) (by kernel_rfl)
 replace hG:=hF.gx
 clear hF
 have z4:=hS.fr.size
 refine wp_cond_false (hK.ev 21 (by kernel_rfl) _ (by kernel_rfl)) ?_
 refine wp_skip ?_
 refine then_n ?_
 refine wp_symQ hS hG hK (fun p5=>[.v 25 (.pointer (some ⟨(p1 0).N,0,none⟩)),.l 26 (.slice a n c) 0 0,.v 27 (.pointer (some ⟨(p1 1).N,0,none⟩)),.l 28 (.slice a' n' c') 1 0,.c (some 29) (cH W4.heap.size (m / d) (m % d) fun x9 y9=>.tuple #[x9,y9]),.v 24 (.tuple #[.slice (p5 4).A (p5 4).N (p5 4).C,.slice (p5 4).A' (p5 4).N' (p5 4).C']),.v 30 (.slice (p5 4).A (p5 4).N (p5 4).C),.v 31 (.slice (p5 4).A' (p5 4).N' (p5 4).C'),.v 8 (.slice (p5 4).A (p5 4).N (p5 4).C),.v 9 (.slice (p5 4).A' (p5 4).N' (p5 4).C')]) (fun p5=>[(4,.pointer (some ⟨(p1 2).N,0,none⟩)),(5,.pointer (some ⟨(p1 3).N,0,none⟩)),(6,.int .i64 0),(7,.int .i64 0),(8,.slice (p5 4).A (p5 4).N (p5 4).C),(9,.slice (p5 4).A' (p5 4).N' (p5 4).C'),(14,.bool false),(21,.bool false)]) (by kernel_rfl) (fun _ _=>by kernel_rfl) (fun _=>by kernel_rfl) (fun _=>by kernel_rfl) (fun p5=>?_) (fun p5 W5 T hF hK=>?_)
 ·refine ok_v (by kernel_rfl) ?_
  refine ok_L (by kernel_rfl) (by kernel_rfl) (by kernel_rfl) ?_
  refine ok_v (by kernel_rfl) ?_
  refine ok_L (by kernel_rfl) (by kernel_rfl) (by kernel_rfl) ?_
  refine ok_c (fun W cx=>as_h cx.hb (rquo_is hka hkb hle hd hm _ _ _ c _ _ c' (cx.G.1) (cx.G.2.1))) (by kernel_rfl) ?_
  iterate 5 refine ok_v (by kernel_rfl) ?_
  exact ok_nil
 replace hS:=SymF.fb hS hF [2,3] [⟨(p1 2).N,#[.slice none 0 0],65,true⟩,⟨(p1 3).N,#[.slice none 0 0],65,true⟩] (by kernel_rfl) (by kernel_rfl)
 replace hG:GsAt (gM W4.heap.size (p5 4).A (p5 4).N (p5 4).C (m / d) :: gM W4.heap.size (p5 4).A' (p5 4).N' (p5 4).C' (m % d) :: _) W5:=⟨And.left (hF.fx 4),And.right (hF.fx 4),hF.gx⟩
 clear hF
 have z5:=hS.fr.size
 refine wp_symQ hS hG hK (fun p6=>[.v 32 (.slice (p5 4).A (p5 4).N (p5 4).C),.c (some 33) (cV (.agg #[.slice (p5 4).A (p5 4).N (p5 4).C])),.v 34 (.slice (p5 4).A' (p5 4).N' (p5 4).C'),.c (some 35) (cV (.agg #[.slice (p5 4).A' (p5 4).N' (p5 4).C'])),.p 0 0 [.slice (p5 4).A (p5 4).N (p5 4).C],.p 1 0 [.slice (p5 4).A' (p5 4).N' (p5 4).C'],.v 6 (.int .i64 0)]) (fun p6=>[(4,.pointer (some ⟨(p1 2).N,0,none⟩)),(5,.pointer (some ⟨(p1 3).N,0,none⟩)),(6,.int .i64 0),(7,.int .i64 0),(14,.bool false),(21,.bool false)]) (by kernel_rfl) (fun _ _=>by kernel_rfl) (fun _=>by kernel_rfl) (fun _=>by kernel_rfl) (fun p6=>?_) (fun p6 W6 T hF hK=>?_)
 ·refine ok_v (by kernel_rfl) ?_
  refine ok_c (fun W cx=>as_v (rnat_is _ _ _ _)) (by kernel_rfl) ?_
  refine ok_v (by kernel_rfl) ?_
  refine ok_c (fun W cx=>as_v (rnat_is _ _ _ _)) (by kernel_rfl) ?_
  iterate 2 refine ok_P (by kernel_rfl) (by kernel_rfl) (by kernel_rfl) ?_
  refine ok_v (by kernel_rfl) ?_
  exact ok_nil
 replace hS:=SymF.fb hS hF [0,1] [⟨(p1 2).N,#[.slice (p5 4).A (p5 4).N (p5 4).C],65,true⟩,⟨(p1 3).N,#[.slice (p5 4).A' (p5 4).N' (p5 4).C'],65,true⟩] (by kernel_rfl) (by kernel_rfl)
 replace hG:=hF.gx
 clear hF
 have z6:=hS.fr.size
 refine wp_ret ?_
 exact sym_end hS hK (.tuple #[.agg #[.slice (p5 4).A (p5 4).N (p5 4).C],.agg #[.slice (p5 4).A' (p5 4).N' (p5 4).C'],.int .i64 0]) [(0,0,1),(1,0,1)] [.slice (p5 4).A (p5 4).N (p5 4).C,.slice (p5 4).A' (p5 4).N' (p5 4).C'] (by kernel_rfl) (by kernel_rfl) ⟨⟨_,_,_,_,_,_,rfl,Mine.mono hG.1 z4,Mine.mono hG.2.1 z4⟩,hS.fr⟩
theorem rb_is (w:World) (a:Option Addr) (n c N H U L:Nat) (h:Num w a n N) (hH:N / 2 ^ 64 = H) (hU:H * 2 ^ 64 = U) (hU2:U < 2 ^ 128) (hL:N = U+L) (hH2:H < 18446744073709551616) (hL2:L < 18446744073709551616) :
  Calls Tryd.prog 30 #[.agg #[.slice a n c]] w fun en w'=>en = .returned (.tuple #[.int .u64 (H:Int),.int .u64 (L:Int)])∧Below w.heap.size w w':=by
 refine calls_sym Tryd.func30 rfl (by kernel_rfl) fun T hK=>?_
 replace hK:Kn T _ [(0,.agg #[.slice a n c])]:=hK
 have hS:=Fb.begin w
 have hG:GsAt [gN a n N] w:=⟨h,trivial⟩
 refine wp_symQ hS hG hK (fun p1=>[.n 1 #[.slice a n c] 65,.v 2 (.int .u64 0),.v 3 (.int .u64 0)]) (fun p1=>[(1,.pointer (some ⟨(p1 0).N,0,none⟩)),(2,.int .u64 0),(3,.int .u64 0)]) (by kernel_rfl) (fun _ _=>by kernel_rfl) (fun _=>by kernel_rfl) (fun _=>by kernel_rfl) (fun p1=>?_) (fun p1 W1 T hF hK=>?_)
 ·refine ok_n (fun _=>by kernel_rfl) ?_
  iterate 2 refine ok_v (by kernel_rfl) ?_
  exact ok_nil
 replace hS:=SymF.fb hS hF [1000] [⟨(p1 0).N,#[.slice a n c],65,true⟩] (by kernel_rfl) (by kernel_rfl)
 replace hG:=hF.gx
 clear hF
 have z1:=hS.fr.size
 refine wp_symQ hS hG hK (fun p2=>[.l 16 (.agg #[.slice a n c]) 0 0,.c (some 17) (cO W1.heap.size H),.v 15 (.tuple #[.agg #[.slice (p2 1).A (p2 1).N (p2 1).C],.int .i64 0]),.v 18 (.agg #[.slice (p2 1).A (p2 1).N (p2 1).C]),.v 19 (.int .i64 0),.n 4 #[.slice none 0 0] 65,.p 1005 0 [.slice (p2 1).A (p2 1).N (p2 1).C],.v 5 (.int .i64 0)]) (fun p2=>[(1,.pointer (some ⟨(p1 0).N,0,none⟩)),(2,.int .u64 0),(3,.int .u64 0),(4,.pointer (some ⟨(p2 5).N,0,none⟩))]) (by kernel_rfl) (fun _ _=>by kernel_rfl) (fun _=>by kernel_rfl) (fun _=>by kernel_rfl) (fun p2=>?_) (fun p2 W2 T hF hK=>?_)
 ·refine ok_L (by kernel_rfl) (by kernel_rfl) (by kernel_rfl) ?_
  refine ok_c (fun W cx=>as_o cx.hb (rdown_is (k:=64) hH (by omega) _ _ _ c (cx.G.1))) (by kernel_rfl) ?_
  iterate 3 refine ok_v (by kernel_rfl) ?_
  refine ok_n (fun _=>by kernel_rfl) ?_
  refine ok_P (by kernel_rfl) (by kernel_rfl) (by kernel_rfl) ?_
  refine ok_v (by kernel_rfl) ?_
  exact ok_nil
 replace hS:=SymF.fb hS hF [0,1005] [⟨(p1 0).N,#[.slice a n c],65,true⟩,⟨(p2 5).N,#[.slice (p2 1).A (p2 1).N (p2 1).C],65,true⟩] (by kernel_rfl) (by kernel_rfl)
 replace hG:GsAt (gM W1.heap.size (p2 1).A (p2 1).N (p2 1).C H :: _) W2:=⟨hF.fx 1,hF.gx⟩
 clear hF
 have z2:=hS.fr.size
 refine wp_symQ hS hG hK (fun p3=>[.l 21 (.agg #[.slice (p2 1).A (p2 1).N (p2 1).C]) 1 0,.c (some 22) (cV (.tuple #[.int .u64 (H:Int),.bool true])),.v 20 (.tuple #[.int .u64 (H:Int),.bool true]),.v 23 (.int .u64 (H:Int)),.v 24 (.bool true),.v 6 (.int .u64 (H:Int)),.v 7 (.bool true)]) (fun p3=>[(1,.pointer (some ⟨(p1 0).N,0,none⟩)),(2,.int .u64 0),(3,.int .u64 0),(4,.pointer (some ⟨(p2 5).N,0,none⟩)),(6,.int .u64 (H:Int))]) (by kernel_rfl) (fun _ _=>by kernel_rfl) (fun _=>by kernel_rfl) (fun _=>by kernel_rfl) (fun p3=>?_) (fun p3 W3 T hF hK=>?_)
 ·refine ok_L (by kernel_rfl) (by kernel_rfl) (by kernel_rfl) ?_
  refine ok_c (fun W cx=>as_v (rlow_is hH2 _ _ _ (p2 1).C (Mine.num cx.G.1))) (by kernel_rfl) ?_
  iterate 5 refine ok_v (by kernel_rfl) ?_
  exact ok_nil
 replace hS:=SymF.fb hS hF [0,1] [⟨(p1 0).N,#[.slice a n c],65,true⟩,⟨(p2 5).N,#[.slice (p2 1).A (p2 1).N (p2 1).C],65,true⟩] (by kernel_rfl) (by kernel_rfl)
 replace hG:=hF.gx
 clear hF
 have z3:=hS.fr.size
 refine wp_symQ hS hG hK (fun p4=>[.l 26 (.agg #[.slice (p2 1).A (p2 1).N (p2 1).C]) 1 0,.c (some 27) (cO W3.heap.size U),.v 25 (.tuple #[.agg #[.slice (p4 1).A (p4 1).N (p4 1).C],.int .i64 0]),.v 28 (.agg #[.slice (p4 1).A (p4 1).N (p4 1).C]),.v 29 (.int .i64 0),.n 8 #[.slice none 0 0] 65,.p 1005 0 [.slice (p4 1).A (p4 1).N (p4 1).C],.v 9 (.int .i64 0)]) (fun p4=>[(1,.pointer (some ⟨(p1 0).N,0,none⟩)),(2,.int .u64 0),(3,.int .u64 0),(6,.int .u64 (H:Int)),(8,.pointer (some ⟨(p4 5).N,0,none⟩))]) (by kernel_rfl) (fun _ _=>by kernel_rfl) (fun _=>by kernel_rfl) (fun _=>by kernel_rfl) (fun p4=>?_) (fun p4 W4 T hF hK=>?_)
 ·refine ok_L (by kernel_rfl) (by kernel_rfl) (by kernel_rfl) ?_
  refine ok_c (fun W cx=>as_o cx.hb (rup_is (k:=64) hU hU2 (by omega) (by omega) _ _ _ (p2 1).C (Mine.num cx.G.1))) (by kernel_rfl) ?_
  iterate 3 refine ok_v (by kernel_rfl) ?_
  refine ok_n (fun _=>by kernel_rfl) ?_
  refine ok_P (by kernel_rfl) (by kernel_rfl) (by kernel_rfl) ?_
  refine ok_v (by kernel_rfl) ?_
  exact ok_nil
 replace hS:=SymF.fb hS hF [0,1005] [⟨(p1 0).N,#[.slice a n c],65,true⟩,⟨(p4 5).N,#[.slice (p4 1).A (p4 1).N (p4 1).C],65,true⟩] (by kernel_rfl) (by kernel_rfl)
 replace hG:GsAt (gM W3.heap.size (p4 1).A (p4 1).N (p4 1).C U :: _) W4:=⟨hF.fx 1,hF.gx⟩
 clear hF
 have z4:=hS.fr.size
 refine wp_symQ hS hG hK (fun p5=>[.l 31 (.agg #[.slice a n c]) 0 0,.l 32 (.agg #[.slice (p4 1).A (p4 1).N (p4 1).C]) 1 0,.c (some 33) (cG W4.heap.size L fun x9=>.tuple #[.agg #[x9],.bool true,.int .i64 0]),.v 30 (.tuple #[.agg #[.slice (p5 2).A (p5 2).N (p5 2).C],.bool true,.int .i64 0]),.v 34 (.agg #[.slice (p5 2).A (p5 2).N (p5 2).C]),.v 35 (.bool true),.v 36 (.int .i64 0),.n 10 #[.slice none 0 0] 65,.p 1007 0 [.slice (p5 2).A (p5 2).N (p5 2).C],.v 11 (.bool true),.v 12 (.int .i64 0)]) (fun p5=>[(2,.int .u64 0),(3,.int .u64 0),(6,.int .u64 (H:Int)),(10,.pointer (some ⟨(p5 7).N,0,none⟩))]) (by kernel_rfl) (fun _ _=>by kernel_rfl) (fun _=>by kernel_rfl) (fun _=>by kernel_rfl) (fun p5=>?_) (fun p5 W5 T hF hK=>?_)
 ·iterate 2 refine ok_L (by kernel_rfl) (by kernel_rfl) (by kernel_rfl) ?_
  refine ok_c (fun W cx=>as_g cx.hb (rsub_is hL _ _ _ c _ _ (p4 1).C (cx.G.2.2.1) (Mine.num cx.G.1))) (by kernel_rfl) ?_
  iterate 4 refine ok_v (by kernel_rfl) ?_
  refine ok_n (fun _=>by kernel_rfl) ?_
  refine ok_P (by kernel_rfl) (by kernel_rfl) (by kernel_rfl) ?_
  iterate 2 refine ok_v (by kernel_rfl) ?_
  exact ok_nil
 replace hS:=SymF.fb hS hF [1007] [⟨(p5 7).N,#[.slice (p5 2).A (p5 2).N (p5 2).C],65,true⟩] (by kernel_rfl) (by kernel_rfl)
 replace hG:GsAt (gM W4.heap.size (p5 2).A (p5 2).N (p5 2).C L :: _) W5:=⟨hF.fx 2,hF.gx⟩
 clear hF
 have z5:=hS.fr.size
 refine wp_symQ hS hG hK (fun p6=>[.l 38 (.agg #[.slice (p5 2).A (p5 2).N (p5 2).C]) 0 0,.c (some 39) (cV (.tuple #[.int .u64 (L:Int),.bool true])),.v 37 (.tuple #[.int .u64 (L:Int),.bool true]),.v 40 (.int .u64 (L:Int)),.v 41 (.bool true),.v 13 (.int .u64 (L:Int)),.v 14 (.bool true)]) (fun p6=>[(2,.int .u64 0),(3,.int .u64 0),(6,.int .u64 (H:Int)),(13,.int .u64 (L:Int))]) (by kernel_rfl) (fun _ _=>by kernel_rfl) (fun _=>by kernel_rfl) (fun _=>by kernel_rfl) (fun p6=>?_) (fun p6 W6 T hF hK=>?_)
 ·refine ok_L (by kernel_rfl) (by kernel_rfl) (by kernel_rfl) ?_
  refine ok_c (fun W cx=>as_v (rlow_is hL2 _ _ _ (p5 2).C (Mine.num cx.G.1))) (by kernel_rfl) ?_
  iterate 5 refine ok_v (by kernel_rfl) ?_
  exact ok_nil
 replace hS:=SymF.fb hS hF [] [] (by kernel_rfl) (by kernel_rfl)
 replace hG:=hF.gx
 clear hF
 have z6:=hS.fr.size
 refine wp_symQ hS hG hK (fun p7=>[.v 42 (.int .u64 (H:Int)),.v 43 (.int .u64 (L:Int)),.v 2 (.int .u64 (H:Int)),.v 3 (.int .u64 (L:Int))]) (fun p7=>[(2,.int .u64 (H:Int)),(3,.int .u64 (L:Int))]) (by kernel_rfl) (fun _ _=>by kernel_rfl) (fun _=>by kernel_rfl) (fun _=>by kernel_rfl) (fun p7=>?_) (fun p7 W7 T hF hK=>?_)
 ·iterate 4 refine ok_v (by kernel_rfl) ?_
  exact ok_nil
 replace hS:=SymF.fb hS hF [] [] (by kernel_rfl) (by kernel_rfl)
 replace hG:=hF.gx
 clear hF
 have z7:=hS.fr.size
 refine wp_ret ?_
 exact sym_end hS hK (.tuple #[.int .u64 (H:Int),.int .u64 (L:Int)]) [] [] (by kernel_rfl) (by kernel_rfl) ⟨rfl,hS.fr⟩
theorem rten_neg (w:World) (j p s e t:Nat) (hj:j≤400) (hp:10 ^ j = p) (hpe:p < 2 ^ e) (he:e≤4000) (hs:Bl p s) (hs2:s≤4000) (hj0:0 < j) (ht:1 * 2 ^ (s+127) = t) (hte:t < 2 ^ e) (hlt:Bl t (s+128)) (hp0:0 < p) (ht0:0 < t) :
  Calls Tryd.prog 23 #[.int .i64 (-(j:Int))] w fun en w'=>(∃ A N C,en = .returned (.tuple #[.agg #[.slice A N C],.int .i64 (-(s:Int) - 127),.bool false])∧Mine w' w.heap.size A N C (t / p))∧Below w.heap.size w w':=by
 refine calls_sym Tryd.func23 rfl (by kernel_rfl) fun T hK=>?_
 replace hK:Kn T _ [(0,.int .i64 (-(j:Int)))]:=hK
 have hS:=Fb.begin w
 have hG:GsAt [] w:=trivial
 refine wp_symQ hS hG hK (fun p1=>[.n 2 #[.slice none 0 0] 65,.v 3 (.int .i64 0),.v 4 (.bool false)]) (fun p1=>[(0,.int .i64 (-(j:Int))),(2,.pointer (some ⟨(p1 0).N,0,none⟩)),(3,.int .i64 0),(4,.bool false)]) (by kernel_rfl) (fun _ _=>by kernel_rfl) (fun _=>by kernel_rfl) (fun _=>by kernel_rfl) (fun p1=>?_) (fun p1 W1 T hF hK=>?_)
 ·refine ok_n (fun _=>by kernel_rfl) ?_
  iterate 2 refine ok_v (by kernel_rfl) ?_
  exact ok_nil
 replace hS:=SymF.fb hS hF [1000] [⟨(p1 0).N,#[.slice none 0 0],65,true⟩] (by kernel_rfl) (by kernel_rfl)
 replace hG:=hF.gx
 clear hF
 have z1:=hS.fr.size
 refine wp_symQ hS hG hK (fun p2=>[.v 21 (.int .i64 (-(j:Int))),.v 22 (.int .i64 (-(j:Int))),.v 23 (.int .i64 (j:Int)),.v 24 (.int .i64 (j:Int)),.c (some 25) (cO W1.heap.size p),.v 20 (.tuple #[.agg #[.slice (p2 4).A (p2 4).N (p2 4).C],.int .i64 0]),.v 26 (.agg #[.slice (p2 4).A (p2 4).N (p2 4).C]),.v 27 (.int .i64 0),.n 5 #[.slice none 0 0] 65,.p 1008 0 [.slice (p2 4).A (p2 4).N (p2 4).C],.v 6 (.int .i64 0)]) (fun p2=>[(0,.int .i64 (-(j:Int))),(2,.pointer (some ⟨(p1 0).N,0,none⟩)),(3,.int .i64 0),(4,.bool false),(5,.pointer (some ⟨(p2 8).N,0,none⟩))]) (by kernel_rfl) (fun _ _=>by kernel_rfl) (fun _=>by kernel_rfl) (fun _=>by kernel_rfl) (fun p2=>?_) (fun p2 W2 T hF hK=>?_)
 ·iterate 2 refine ok_v (by kernel_rfl) ?_
  refine ok_vi ((wr64 (x:=0 - -(j:Int)) (by omega) (by omega)).trans (by omega)) (by kernel_rfl) ?_
  refine ok_vi (pmax_n j) (by kernel_rfl) ?_
  refine ok_c (fun W cx=>as_o cx.hb (rpow_is (b:=10) hp hpe (by omega) (by decide) (by omega) _)) (by kernel_rfl) ?_
  iterate 3 refine ok_v (by kernel_rfl) ?_
  refine ok_n (fun _=>by kernel_rfl) ?_
  refine ok_P (by kernel_rfl) (by kernel_rfl) (by kernel_rfl) ?_
  refine ok_v (by kernel_rfl) ?_
  exact ok_nil
 replace hS:=SymF.fb hS hF [0,1008] [⟨(p1 0).N,#[.slice none 0 0],65,true⟩,⟨(p2 8).N,#[.slice (p2 4).A (p2 4).N (p2 4).C],65,true⟩] (by kernel_rfl) (by kernel_rfl)
 replace hG:GsAt (gM W1.heap.size (p2 4).A (p2 4).N (p2 4).C p :: _) W2:=⟨hF.fx 4,hF.gx⟩
 clear hF
 have z2:=hS.fr.size
 refine wp_symQ hS hG hK (fun p3=>[.l 29 (.agg #[.slice (p2 4).A (p2 4).N (p2 4).C]) 1 0,.c (some 30) (cV (.tuple #[.int .i64 (s:Int),.int .i64 0])),.v 28 (.tuple #[.int .i64 (s:Int),.int .i64 0]),.v 31 (.int .i64 (s:Int)),.v 32 (.int .i64 0),.v 7 (.int .i64 (s:Int)),.v 8 (.int .i64 0)]) (fun p3=>[(0,.int .i64 (-(j:Int))),(2,.pointer (some ⟨(p1 0).N,0,none⟩)),(3,.int .i64 0),(4,.bool false),(5,.pointer (some ⟨(p2 8).N,0,none⟩)),(7,.int .i64 (s:Int))]) (by kernel_rfl) (fun _ _=>by kernel_rfl) (fun _=>by kernel_rfl) (fun _=>by kernel_rfl) (fun p3=>?_) (fun p3 W3 T hF hK=>?_)
 ·refine ok_L (by kernel_rfl) (by kernel_rfl) (by kernel_rfl) ?_
  refine ok_c (fun W cx=>as_v (rbits_is hs _ _ _ (p2 4).C (Mine.num cx.G.1))) (by kernel_rfl) ?_
  iterate 5 refine ok_v (by kernel_rfl) ?_
  exact ok_nil
 replace hS:=SymF.fb hS hF [0,1] [⟨(p1 0).N,#[.slice none 0 0],65,true⟩,⟨(p2 8).N,#[.slice (p2 4).A (p2 4).N (p2 4).C],65,true⟩] (by kernel_rfl) (by kernel_rfl)
 replace hG:=hF.gx
 clear hF
 have z3:=hS.fr.size
 refine wp_seq ?_
 refine wp_symQ hS hG hK (fun p4=>[.v 33 (.int .i64 (-(j:Int))),.v 34 (.bool true)]) (fun p4=>[(2,.pointer (some ⟨(p1 0).N,0,none⟩)),(3,.int .i64 0),(4,.bool false),(5,.pointer (some ⟨(p2 8).N,0,none⟩)),(7,.int .i64 (s:Int)),(34,.bool true)]) (by kernel_rfl) (fun _ _=>by kernel_rfl) (fun _=>by kernel_rfl) (fun _=>by kernel_rfl) (fun p4=>?_) (fun p4 W4 T hF hK=>?_)
 ·refine ok_v (by kernel_rfl) ?_
  refine ok_vb (decide_eq_true (show (-(j:Int)) < 0 by omega)) (by kernel_rfl) ?_
  exact ok_nil
 replace hS:=SymF.fb hS hF [0,1] [⟨(p1 0).N,#[.slice none 0 0],65,true⟩,⟨(p2 8).N,#[.slice (p2 4).A (p2 4).N (p2 4).C],65,true⟩] (by kernel_rfl) (by kernel_rfl)
 replace hG:=hF.gx
 clear hF
 have z4:=hS.fr.size
 refine wp_cond_true (hK.ev 34 (by kernel_rfl) _ (by kernel_rfl)) ?_
 refine wp_symQ hS hG hK (fun p5=>[.c (some 36) (cN W4.heap.size 1),.v 37 (.int .i64 (s:Int)),.v 38 (.int .i64 ((s+127:Nat):Int)),.c (some 39) (cO W4.heap.size t),.v 35 (.tuple #[.agg #[.slice (p5 3).A (p5 3).N (p5 3).C],.int .i64 0]),.v 40 (.agg #[.slice (p5 3).A (p5 3).N (p5 3).C]),.v 41 (.int .i64 0),.n 9 #[.slice none 0 0] 65,.p 1007 0 [.slice (p5 3).A (p5 3).N (p5 3).C],.v 10 (.int .i64 0)]) (fun p5=>[(2,.pointer (some ⟨(p1 0).N,0,none⟩)),(3,.int .i64 0),(4,.bool false),(5,.pointer (some ⟨(p2 8).N,0,none⟩)),(7,.int .i64 (s:Int)),(9,.pointer (some ⟨(p5 7).N,0,none⟩)),(34,.bool true)]) (by kernel_rfl) (fun _ _=>by kernel_rfl) (fun _=>by kernel_rfl) (fun _=>by kernel_rfl) (fun p5=>?_) (fun p5 W5 T hF hK=>?_)
 ·refine ok_c (fun W cx=>as_n cx.hb (rof_any 1 _ (by decide))) (by kernel_rfl) ?_
  refine ok_v (by kernel_rfl) ?_
  refine ok_vi ((wr64 (x:=(s:Int)+127) (by omega) (by omega)).trans (by omega)) (by kernel_rfl) ?_
  refine ok_c (fun W cx=>as_o cx.hb (rup_is (k:=s+127) ht hte (by omega) (by omega) _ _ _ (p5 0).C (Mine.num (cx.F 0 (by kernel_rfl))))) (by kernel_rfl) ?_
  iterate 3 refine ok_v (by kernel_rfl) ?_
  refine ok_n (fun _=>by kernel_rfl) ?_
  refine ok_P (by kernel_rfl) (by kernel_rfl) (by kernel_rfl) ?_
  refine ok_v (by kernel_rfl) ?_
  exact ok_nil
 replace hS:=SymF.fb hS hF [0,1,1007] [⟨(p1 0).N,#[.slice none 0 0],65,true⟩,⟨(p2 8).N,#[.slice (p2 4).A (p2 4).N (p2 4).C],65,true⟩,⟨(p5 7).N,#[.slice (p5 3).A (p5 3).N (p5 3).C],65,true⟩] (by kernel_rfl) (by kernel_rfl)
 replace hG:GsAt (gM W4.heap.size (p5 0).A (p5 0).N (p5 0).C 1 :: gM W4.heap.size (p5 3).A (p5 3).N (p5 3).C t :: _) W5:=⟨hF.fx 0,hF.fx 3,hF.gx⟩
 clear hF
 have z5:=hS.fr.size
 refine wp_symQ hS hG hK (fun p6=>[.l 43 (.agg #[.slice (p5 3).A (p5 3).N (p5 3).C]) 2 0,.l 44 (.agg #[.slice (p2 4).A (p2 4).N (p2 4).C]) 1 0,.c (some 45) (cD W5.heap.size (t / p) (t % p)),.v 42 (.tuple #[.agg #[.slice (p6 2).A (p6 2).N (p6 2).C],.agg #[.slice (p6 2).A' (p6 2).N' (p6 2).C'],.int .i64 0]),.v 46 (.agg #[.slice (p6 2).A (p6 2).N (p6 2).C]),.v 47 (.agg #[.slice (p6 2).A' (p6 2).N' (p6 2).C']),.v 48 (.int .i64 0),.n 11 #[.slice none 0 0] 65,.n 12 #[.slice none 0 0] 65,.p 1007 0 [.slice (p6 2).A (p6 2).N (p6 2).C],.p 1008 0 [.slice (p6 2).A' (p6 2).N' (p6 2).C'],.v 13 (.int .i64 0)]) (fun p6=>[(2,.pointer (some ⟨(p1 0).N,0,none⟩)),(3,.int .i64 0),(4,.bool false),(5,.pointer (some ⟨(p2 8).N,0,none⟩)),(7,.int .i64 (s:Int)),(11,.pointer (some ⟨(p6 7).N,0,none⟩)),(34,.bool true)]) (by kernel_rfl) (fun _ _=>by kernel_rfl) (fun _=>by kernel_rfl) (fun _=>by kernel_rfl) (fun p6=>?_) (fun p6 W6 T hF hK=>?_)
 ·iterate 2 refine ok_L (by kernel_rfl) (by kernel_rfl) (by kernel_rfl) ?_
  refine ok_c (fun W cx=>as_d cx.hb (rdiv_is _ _ _ (p5 3).C _ _ _ (p2 4).C _ (s+128) s (Mine.num cx.G.2.1) (Mine.num cx.G.2.2.1) hlt hs (by omega) hp0 ht0 (fun e=>absurd ((Mine.num cx.G.2.2.1).zero.1 e) (by omega)))) (by kernel_rfl) ?_
  iterate 4 refine ok_v (by kernel_rfl) ?_
  iterate 2 refine ok_n (fun _=>by kernel_rfl) ?_
  iterate 2 refine ok_P (by kernel_rfl) (by kernel_rfl) (by kernel_rfl) ?_
  refine ok_v (by kernel_rfl) ?_
  exact ok_nil
 replace hS:=SymF.fb hS hF [0,1,1007] [⟨(p1 0).N,#[.slice none 0 0],65,true⟩,⟨(p2 8).N,#[.slice (p2 4).A (p2 4).N (p2 4).C],65,true⟩,⟨(p6 7).N,#[.slice (p6 2).A (p6 2).N (p6 2).C],65,true⟩] (by kernel_rfl) (by kernel_rfl)
 replace hG:GsAt (gM W5.heap.size (p6 2).A (p6 2).N (p6 2).C (t / p) :: gM W5.heap.size (p6 2).A' (p6 2).N' (p6 2).C' (t % p) :: _) W6:=⟨And.left (hF.fx 2),And.right (hF.fx 2),hF.gx⟩
 clear hF
 have z6:=hS.fr.size
 refine wp_symQ hS hG hK (fun p7=>[.l 49 (.agg #[.slice (p6 2).A (p6 2).N (p6 2).C]) 2 0,.v 50 (.int .i64 (s:Int)),.v 51 (.int .i64 (-(s:Int))),.v 52 (.int .i64 (-(s:Int) - 127)),.p 0 0 [.slice (p6 2).A (p6 2).N (p6 2).C],.v 3 (.int .i64 (-(s:Int) - 127)),.v 4 (.bool false)]) (fun p7=>[(2,.pointer (some ⟨(p1 0).N,0,none⟩)),(3,.int .i64 (-(s:Int) - 127)),(4,.bool false),(5,.pointer (some ⟨(p2 8).N,0,none⟩)),(7,.int .i64 (s:Int)),(34,.bool true)]) (by kernel_rfl) (fun _ _=>by kernel_rfl) (fun _=>by kernel_rfl) (fun _=>by kernel_rfl) (fun p7=>?_) (fun p7 W7 T hF hK=>?_)
 ·refine ok_L (by kernel_rfl) (by kernel_rfl) (by kernel_rfl) ?_
  refine ok_v (by kernel_rfl) ?_
  refine ok_vi ((wr64 (x:=0 - (s:Int)) (by omega) (by omega)).trans (by omega)) (by kernel_rfl) ?_
  refine ok_vi (wr64 (x:=-(s:Int) - 127) (by omega) (by omega)) (by kernel_rfl) ?_
  refine ok_P (by kernel_rfl) (by kernel_rfl) (by kernel_rfl) ?_
  iterate 2 refine ok_v (by kernel_rfl) ?_
  exact ok_nil
 replace hS:=SymF.fb hS hF [0,1] [⟨(p1 0).N,#[.slice (p6 2).A (p6 2).N (p6 2).C],65,true⟩,⟨(p2 8).N,#[.slice (p2 4).A (p2 4).N (p2 4).C],65,true⟩] (by kernel_rfl) (by kernel_rfl)
 replace hG:=hF.gx
 clear hF
 have z7:=hS.fr.size
 refine wp_ret ?_
 refine then_r ?_
 exact sym_end hS hK (.tuple #[.agg #[.slice (p6 2).A (p6 2).N (p6 2).C],.int .i64 (-(s:Int) - 127),.bool false]) [(0,0,1)] [.slice (p6 2).A (p6 2).N (p6 2).C] (by kernel_rfl) (by kernel_rfl) ⟨⟨_,_,_,rfl,Mine.mono hG.1 z5⟩,hS.fr⟩
theorem rten_small (w:World) (j p s e t:Nat) (hj:j≤400) (hp:10 ^ j = p) (hpe:p < 2 ^ e) (he:e≤4000) (hs:Bl p s) (hs2:s≤4000) (hs3:s≤128) (ht:p * 2 ^ (128 - s) = t) (hte:t < 2 ^ e) :
  Calls Tryd.prog 23 #[.int .i64 (j:Int)] w fun en w'=>(∃ A N C,en = .returned (.tuple #[.agg #[.slice A N C],.int .i64 ((s:Int) - 128),.bool true])∧Mine w' w.heap.size A N C t)∧Below w.heap.size w w':=by
 refine calls_sym Tryd.func23 rfl (by kernel_rfl) fun T hK=>?_
 replace hK:Kn T _ [(0,.int .i64 (j:Int))]:=hK
 have hS:=Fb.begin w
 have hG:GsAt [] w:=trivial
 refine wp_symQ hS hG hK (fun p1=>[.n 2 #[.slice none 0 0] 65,.v 3 (.int .i64 0),.v 4 (.bool false)]) (fun p1=>[(0,.int .i64 (j:Int)),(2,.pointer (some ⟨(p1 0).N,0,none⟩)),(3,.int .i64 0),(4,.bool false)]) (by kernel_rfl) (fun _ _=>by kernel_rfl) (fun _=>by kernel_rfl) (fun _=>by kernel_rfl) (fun p1=>?_) (fun p1 W1 T hF hK=>?_)
 ·refine ok_n (fun _=>by kernel_rfl) ?_
  iterate 2 refine ok_v (by kernel_rfl) ?_
  exact ok_nil
 replace hS:=SymF.fb hS hF [1000] [⟨(p1 0).N,#[.slice none 0 0],65,true⟩] (by kernel_rfl) (by kernel_rfl)
 replace hG:=hF.gx
 clear hF
 have z1:=hS.fr.size
 refine wp_symQ hS hG hK (fun p2=>[.v 21 (.int .i64 (j:Int)),.v 22 (.int .i64 (j:Int)),.v 23 (.int .i64 (-(j:Int))),.v 24 (.int .i64 (j:Int)),.c (some 25) (cO W1.heap.size p),.v 20 (.tuple #[.agg #[.slice (p2 4).A (p2 4).N (p2 4).C],.int .i64 0]),.v 26 (.agg #[.slice (p2 4).A (p2 4).N (p2 4).C]),.v 27 (.int .i64 0),.n 5 #[.slice none 0 0] 65,.p 1008 0 [.slice (p2 4).A (p2 4).N (p2 4).C],.v 6 (.int .i64 0)]) (fun p2=>[(0,.int .i64 (j:Int)),(2,.pointer (some ⟨(p1 0).N,0,none⟩)),(3,.int .i64 0),(4,.bool false),(5,.pointer (some ⟨(p2 8).N,0,none⟩))]) (by kernel_rfl) (fun _ _=>by kernel_rfl) (fun _=>by kernel_rfl) (fun _=>by kernel_rfl) (fun p2=>?_) (fun p2 W2 T hF hK=>?_)
 ·iterate 2 refine ok_v (by kernel_rfl) ?_
  refine ok_vi ((wr64 (x:=0 - (j:Int)) (by omega) (by omega)).trans (by omega)) (by kernel_rfl) ?_
  refine ok_vi (pmax_p j) (by kernel_rfl) ?_
  refine ok_c (fun W cx=>as_o cx.hb (rpow_is (b:=10) hp hpe (by omega) (by decide) (by omega) _)) (by kernel_rfl) ?_
  iterate 3 refine ok_v (by kernel_rfl) ?_
  refine ok_n (fun _=>by kernel_rfl) ?_
  refine ok_P (by kernel_rfl) (by kernel_rfl) (by kernel_rfl) ?_
  refine ok_v (by kernel_rfl) ?_
  exact ok_nil
 replace hS:=SymF.fb hS hF [0,1008] [⟨(p1 0).N,#[.slice none 0 0],65,true⟩,⟨(p2 8).N,#[.slice (p2 4).A (p2 4).N (p2 4).C],65,true⟩] (by kernel_rfl) (by kernel_rfl)
 replace hG:GsAt (gM W1.heap.size (p2 4).A (p2 4).N (p2 4).C p :: _) W2:=⟨hF.fx 4,hF.gx⟩
 clear hF
 have z2:=hS.fr.size
 refine wp_symQ hS hG hK (fun p3=>[.l 29 (.agg #[.slice (p2 4).A (p2 4).N (p2 4).C]) 1 0,.c (some 30) (cV (.tuple #[.int .i64 (s:Int),.int .i64 0])),.v 28 (.tuple #[.int .i64 (s:Int),.int .i64 0]),.v 31 (.int .i64 (s:Int)),.v 32 (.int .i64 0),.v 7 (.int .i64 (s:Int)),.v 8 (.int .i64 0)]) (fun p3=>[(0,.int .i64 (j:Int)),(2,.pointer (some ⟨(p1 0).N,0,none⟩)),(3,.int .i64 0),(4,.bool false),(5,.pointer (some ⟨(p2 8).N,0,none⟩)),(7,.int .i64 (s:Int))]) (by kernel_rfl) (fun _ _=>by kernel_rfl) (fun _=>by kernel_rfl) (fun _=>by kernel_rfl) (fun p3=>?_) (fun p3 W3 T hF hK=>?_)
 ·refine ok_L (by kernel_rfl) (by kernel_rfl) (by kernel_rfl) ?_
  refine ok_c (fun W cx=>as_v (rbits_is hs _ _ _ (p2 4).C (Mine.num cx.G.1))) (by kernel_rfl) ?_
  iterate 5 refine ok_v (by kernel_rfl) ?_
  exact ok_nil
 replace hS:=SymF.fb hS hF [0,1] [⟨(p1 0).N,#[.slice none 0 0],65,true⟩,⟨(p2 8).N,#[.slice (p2 4).A (p2 4).N (p2 4).C],65,true⟩] (by kernel_rfl) (by kernel_rfl)
 replace hG:=hF.gx
 clear hF
 have z3:=hS.fr.size
 refine wp_seq ?_
 refine wp_symQ hS hG hK (fun p4=>[.v 33 (.int .i64 (j:Int)),.v 34 (.bool false)]) (fun p4=>[(2,.pointer (some ⟨(p1 0).N,0,none⟩)),(3,.int .i64 0),(4,.bool false),(5,.pointer (some ⟨(p2 8).N,0,none⟩)),(7,.int .i64 (s:Int)),(34,.bool false)]) (by kernel_rfl) (fun _ _=>by kernel_rfl) (fun _=>by kernel_rfl) (fun _=>by kernel_rfl) (fun p4=>?_) (fun p4 W4 T hF hK=>?_)
 ·refine ok_v (by kernel_rfl) ?_
  refine ok_vb (decide_eq_false (show ¬ (j:Int) < 0 by omega)) (by kernel_rfl) ?_
  exact ok_nil
 replace hS:=SymF.fb hS hF [0,1] [⟨(p1 0).N,#[.slice none 0 0],65,true⟩,⟨(p2 8).N,#[.slice (p2 4).A (p2 4).N (p2 4).C],65,true⟩] (by kernel_rfl) (by kernel_rfl)
 replace hG:=hF.gx
 clear hF
 have z4:=hS.fr.size
 refine wp_cond_false (hK.ev 34 (by kernel_rfl) _ (by kernel_rfl)) ?_
 refine wp_skip ?_
 refine then_n ?_
 refine wp_seq ?_
 refine wp_symQ hS hG hK (fun p5=>[.v 53 (.int .i64 (s:Int)),.v 54 (.bool true)]) (fun p5=>[(2,.pointer (some ⟨(p1 0).N,0,none⟩)),(3,.int .i64 0),(4,.bool false),(5,.pointer (some ⟨(p2 8).N,0,none⟩)),(7,.int .i64 (s:Int)),(34,.bool false),(54,.bool true)]) (by kernel_rfl) (fun _ _=>by kernel_rfl) (fun _=>by kernel_rfl) (fun _=>by kernel_rfl) (fun p5=>?_) (fun p5 W5 T hF hK=>?_)
 ·refine ok_v (by kernel_rfl) ?_
  refine ok_vb (decide_eq_true (show (s:Int)≤128 by omega)) (by kernel_rfl) ?_
  exact ok_nil
 replace hS:=SymF.fb hS hF [0,1] [⟨(p1 0).N,#[.slice none 0 0],65,true⟩,⟨(p2 8).N,#[.slice (p2 4).A (p2 4).N (p2 4).C],65,true⟩] (by kernel_rfl) (by kernel_rfl)
 replace hG:=hF.gx
 clear hF
 have z5:=hS.fr.size
 refine wp_cond_true (hK.ev 54 (by kernel_rfl) _ (by kernel_rfl)) ?_
 refine wp_symQ hS hG hK (fun p6=>[.l 56 (.agg #[.slice (p2 4).A (p2 4).N (p2 4).C]) 1 0,.v 57 (.int .i64 (s:Int)),.v 58 (.int .i64 ((128 - s:Nat):Int)),.c (some 59) (cO W5.heap.size t),.v 55 (.tuple #[.agg #[.slice (p6 3).A (p6 3).N (p6 3).C],.int .i64 0]),.v 60 (.agg #[.slice (p6 3).A (p6 3).N (p6 3).C]),.v 61 (.int .i64 0),.n 14 #[.slice none 0 0] 65,.p 1007 0 [.slice (p6 3).A (p6 3).N (p6 3).C],.v 15 (.int .i64 0)]) (fun p6=>[(2,.pointer (some ⟨(p1 0).N,0,none⟩)),(3,.int .i64 0),(4,.bool false),(5,.pointer (some ⟨(p2 8).N,0,none⟩)),(7,.int .i64 (s:Int)),(14,.pointer (some ⟨(p6 7).N,0,none⟩)),(34,.bool false),(54,.bool true)]) (by kernel_rfl) (fun _ _=>by kernel_rfl) (fun _=>by kernel_rfl) (fun _=>by kernel_rfl) (fun p6=>?_) (fun p6 W6 T hF hK=>?_)
 ·refine ok_L (by kernel_rfl) (by kernel_rfl) (by kernel_rfl) ?_
  refine ok_v (by kernel_rfl) ?_
  refine ok_vi ((wr64 (x:=128 - (s:Int)) (by omega) (by omega)).trans (by omega)) (by kernel_rfl) ?_
  refine ok_c (fun W cx=>as_o cx.hb (rup_is (k:=128 - s) ht hte (by omega) (by omega) _ _ _ (p2 4).C (Mine.num cx.G.1))) (by kernel_rfl) ?_
  iterate 3 refine ok_v (by kernel_rfl) ?_
  refine ok_n (fun _=>by kernel_rfl) ?_
  refine ok_P (by kernel_rfl) (by kernel_rfl) (by kernel_rfl) ?_
  refine ok_v (by kernel_rfl) ?_
  exact ok_nil
 replace hS:=SymF.fb hS hF [0,1,1007] [⟨(p1 0).N,#[.slice none 0 0],65,true⟩,⟨(p2 8).N,#[.slice (p2 4).A (p2 4).N (p2 4).C],65,true⟩,⟨(p6 7).N,#[.slice (p6 3).A (p6 3).N (p6 3).C],65,true⟩] (by kernel_rfl) (by kernel_rfl)
 replace hG:GsAt (gM W5.heap.size (p6 3).A (p6 3).N (p6 3).C t :: _) W6:=⟨hF.fx 3,hF.gx⟩
 clear hF
 have z6:=hS.fr.size
 refine wp_symQ hS hG hK (fun p7=>[.l 62 (.agg #[.slice (p6 3).A (p6 3).N (p6 3).C]) 2 0,.v 63 (.int .i64 (s:Int)),.v 64 (.int .i64 ((s:Int) - 128)),.p 0 0 [.slice (p6 3).A (p6 3).N (p6 3).C],.v 3 (.int .i64 ((s:Int) - 128)),.v 4 (.bool true)]) (fun p7=>[(2,.pointer (some ⟨(p1 0).N,0,none⟩)),(3,.int .i64 ((s:Int) - 128)),(4,.bool true),(5,.pointer (some ⟨(p2 8).N,0,none⟩)),(7,.int .i64 (s:Int)),(34,.bool false),(54,.bool true)]) (by kernel_rfl) (fun _ _=>by kernel_rfl) (fun _=>by kernel_rfl) (fun _=>by kernel_rfl) (fun p7=>?_) (fun p7 W7 T hF hK=>?_)
 ·refine ok_L (by kernel_rfl) (by kernel_rfl) (by kernel_rfl) ?_
  refine ok_v (by kernel_rfl) ?_
  refine ok_vi (wr64 (x:=(s:Int) - 128) (by omega) (by omega)) (by kernel_rfl) ?_
  refine ok_P (by kernel_rfl) (by kernel_rfl) (by kernel_rfl) ?_
  iterate 2 refine ok_v (by kernel_rfl) ?_
  exact ok_nil
 replace hS:=SymF.fb hS hF [0,1] [⟨(p1 0).N,#[.slice (p6 3).A (p6 3).N (p6 3).C],65,true⟩,⟨(p2 8).N,#[.slice (p2 4).A (p2 4).N (p2 4).C],65,true⟩] (by kernel_rfl) (by kernel_rfl)
 replace hG:=hF.gx
 clear hF
 have z7:=hS.fr.size
 refine wp_ret ?_
 refine then_r ?_
 exact sym_end hS hK (.tuple #[.agg #[.slice (p6 3).A (p6 3).N (p6 3).C],.int .i64 ((s:Int) - 128),.bool true]) [(0,0,1)] [.slice (p6 3).A (p6 3).N (p6 3).C] (by kernel_rfl) (by kernel_rfl) ⟨⟨_,_,_,rfl,Mine.mono hG.1 z5⟩,hS.fr⟩
theorem rten_big (w:World) (j p s e t u:Nat) (b:Bool) (hj:j≤400) (hp:10 ^ j = p) (hpe:p < 2 ^ e) (he:e≤4000) (hs:Bl p s) (hs2:s≤4000) (hs3:128 < s) (ht:p / 2 ^ (s - 128) = t) (hu:t * 2 ^ (s - 128) = u) (hue:u < 2 ^ e) (hb:decide (u = p) = b) :
  Calls Tryd.prog 23 #[.int .i64 (j:Int)] w fun en w'=>(∃ A N C,en = .returned (.tuple #[.agg #[.slice A N C],.int .i64 ((s - 128:Nat):Int),.bool b])∧Mine w' w.heap.size A N C t)∧Below w.heap.size w w':=by
 refine calls_sym Tryd.func23 rfl (by kernel_rfl) fun T hK=>?_
 replace hK:Kn T _ [(0,.int .i64 (j:Int))]:=hK
 have hS:=Fb.begin w
 have hG:GsAt [] w:=trivial
 refine wp_symQ hS hG hK (fun p1=>[.n 2 #[.slice none 0 0] 65,.v 3 (.int .i64 0),.v 4 (.bool false)]) (fun p1=>[(0,.int .i64 (j:Int)),(2,.pointer (some ⟨(p1 0).N,0,none⟩)),(3,.int .i64 0),(4,.bool false)]) (by kernel_rfl) (fun _ _=>by kernel_rfl) (fun _=>by kernel_rfl) (fun _=>by kernel_rfl) (fun p1=>?_) (fun p1 W1 T hF hK=>?_)
 ·refine ok_n (fun _=>by kernel_rfl) ?_
  iterate 2 refine ok_v (by kernel_rfl) ?_
  exact ok_nil
 replace hS:=SymF.fb hS hF [1000] [⟨(p1 0).N,#[.slice none 0 0],65,true⟩] (by kernel_rfl) (by kernel_rfl)
 replace hG:=hF.gx
 clear hF
 have z1:=hS.fr.size
 refine wp_symQ hS hG hK (fun p2=>[.v 21 (.int .i64 (j:Int)),.v 22 (.int .i64 (j:Int)),.v 23 (.int .i64 (-(j:Int))),.v 24 (.int .i64 (j:Int)),.c (some 25) (cO W1.heap.size p),.v 20 (.tuple #[.agg #[.slice (p2 4).A (p2 4).N (p2 4).C],.int .i64 0]),.v 26 (.agg #[.slice (p2 4).A (p2 4).N (p2 4).C]),.v 27 (.int .i64 0),.n 5 #[.slice none 0 0] 65,.p 1008 0 [.slice (p2 4).A (p2 4).N (p2 4).C],.v 6 (.int .i64 0)]) (fun p2=>[(0,.int .i64 (j:Int)),(2,.pointer (some ⟨(p1 0).N,0,none⟩)),(3,.int .i64 0),(4,.bool false),(5,.pointer (some ⟨(p2 8).N,0,none⟩))]) (by kernel_rfl) (fun _ _=>by kernel_rfl) (fun _=>by kernel_rfl) (fun _=>by kernel_rfl) (fun p2=>?_) (fun p2 W2 T hF hK=>?_)
 ·iterate 2 refine ok_v (by kernel_rfl) ?_
  refine ok_vi ((wr64 (x:=0 - (j:Int)) (by omega) (by omega)).trans (by omega)) (by kernel_rfl) ?_
  refine ok_vi (pmax_p j) (by kernel_rfl) ?_
  refine ok_c (fun W cx=>as_o cx.hb (rpow_is (b:=10) hp hpe (by omega) (by decide) (by omega) _)) (by kernel_rfl) ?_
  iterate 3 refine ok_v (by kernel_rfl) ?_
  refine ok_n (fun _=>by kernel_rfl) ?_
  refine ok_P (by kernel_rfl) (by kernel_rfl) (by kernel_rfl) ?_
  refine ok_v (by kernel_rfl) ?_
  exact ok_nil
 replace hS:=SymF.fb hS hF [0,1008] [⟨(p1 0).N,#[.slice none 0 0],65,true⟩,⟨(p2 8).N,#[.slice (p2 4).A (p2 4).N (p2 4).C],65,true⟩] (by kernel_rfl) (by kernel_rfl)
 replace hG:GsAt (gM W1.heap.size (p2 4).A (p2 4).N (p2 4).C p :: _) W2:=⟨hF.fx 4,hF.gx⟩
 clear hF
 have z2:=hS.fr.size
 refine wp_symQ hS hG hK (fun p3=>[.l 29 (.agg #[.slice (p2 4).A (p2 4).N (p2 4).C]) 1 0,.c (some 30) (cV (.tuple #[.int .i64 (s:Int),.int .i64 0])),.v 28 (.tuple #[.int .i64 (s:Int),.int .i64 0]),.v 31 (.int .i64 (s:Int)),.v 32 (.int .i64 0),.v 7 (.int .i64 (s:Int)),.v 8 (.int .i64 0)]) (fun p3=>[(0,.int .i64 (j:Int)),(2,.pointer (some ⟨(p1 0).N,0,none⟩)),(3,.int .i64 0),(4,.bool false),(5,.pointer (some ⟨(p2 8).N,0,none⟩)),(7,.int .i64 (s:Int))]) (by kernel_rfl) (fun _ _=>by kernel_rfl) (fun _=>by kernel_rfl) (fun _=>by kernel_rfl) (fun p3=>?_) (fun p3 W3 T hF hK=>?_)
 ·refine ok_L (by kernel_rfl) (by kernel_rfl) (by kernel_rfl) ?_
  refine ok_c (fun W cx=>as_v (rbits_is hs _ _ _ (p2 4).C (Mine.num cx.G.1))) (by kernel_rfl) ?_
  iterate 5 refine ok_v (by kernel_rfl) ?_
  exact ok_nil
 replace hS:=SymF.fb hS hF [0,1] [⟨(p1 0).N,#[.slice none 0 0],65,true⟩,⟨(p2 8).N,#[.slice (p2 4).A (p2 4).N (p2 4).C],65,true⟩] (by kernel_rfl) (by kernel_rfl)
 replace hG:=hF.gx
 clear hF
 have z3:=hS.fr.size
 refine wp_seq ?_
 refine wp_symQ hS hG hK (fun p4=>[.v 33 (.int .i64 (j:Int)),.v 34 (.bool false)]) (fun p4=>[(2,.pointer (some ⟨(p1 0).N,0,none⟩)),(3,.int .i64 0),(4,.bool false),(5,.pointer (some ⟨(p2 8).N,0,none⟩)),(7,.int .i64 (s:Int)),(34,.bool false)]) (by kernel_rfl) (fun _ _=>by kernel_rfl) (fun _=>by kernel_rfl) (fun _=>by kernel_rfl) (fun p4=>?_) (fun p4 W4 T hF hK=>?_)
 ·refine ok_v (by kernel_rfl) ?_
  refine ok_vb (decide_eq_false (show ¬ (j:Int) < 0 by omega)) (by kernel_rfl) ?_
  exact ok_nil
 replace hS:=SymF.fb hS hF [0,1] [⟨(p1 0).N,#[.slice none 0 0],65,true⟩,⟨(p2 8).N,#[.slice (p2 4).A (p2 4).N (p2 4).C],65,true⟩] (by kernel_rfl) (by kernel_rfl)
 replace hG:=hF.gx
 clear hF
 have z4:=hS.fr.size
 refine wp_cond_false (hK.ev 34 (by kernel_rfl) _ (by kernel_rfl)) ?_
 refine wp_skip ?_
 refine then_n ?_
 refine wp_seq ?_
 refine wp_symQ hS hG hK (fun p5=>[.v 53 (.int .i64 (s:Int)),.v 54 (.bool false)]) (fun p5=>[(2,.pointer (some ⟨(p1 0).N,0,none⟩)),(3,.int .i64 0),(4,.bool false),(5,.pointer (some ⟨(p2 8).N,0,none⟩)),(7,.int .i64 (s:Int)),(34,.bool false),(54,.bool false)]) (by kernel_rfl) (fun _ _=>by kernel_rfl) (fun _=>by kernel_rfl) (fun _=>by kernel_rfl) (fun p5=>?_) (fun p5 W5 T hF hK=>?_)
 ·refine ok_v (by kernel_rfl) ?_
  refine ok_vb (decide_eq_false (show ¬ (s:Int)≤128 by omega)) (by kernel_rfl) ?_
  exact ok_nil
 replace hS:=SymF.fb hS hF [0,1] [⟨(p1 0).N,#[.slice none 0 0],65,true⟩,⟨(p2 8).N,#[.slice (p2 4).A (p2 4).N (p2 4).C],65,true⟩] (by kernel_rfl) (by kernel_rfl)
 replace hG:=hF.gx
 clear hF
 have z5:=hS.fr.size
 refine wp_cond_false (hK.ev 54 (by kernel_rfl) _ (by kernel_rfl)) ?_
 refine wp_skip ?_
 refine then_n ?_
 refine wp_symQ hS hG hK (fun p6=>[.l 66 (.agg #[.slice (p2 4).A (p2 4).N (p2 4).C]) 1 0,.v 67 (.int .i64 (s:Int)),.v 68 (.int .i64 ((s - 128:Nat):Int)),.c (some 69) (cO W5.heap.size t),.v 65 (.tuple #[.agg #[.slice (p6 3).A (p6 3).N (p6 3).C],.int .i64 0]),.v 70 (.agg #[.slice (p6 3).A (p6 3).N (p6 3).C]),.v 71 (.int .i64 0),.n 16 #[.slice none 0 0] 65,.p 1007 0 [.slice (p6 3).A (p6 3).N (p6 3).C],.v 17 (.int .i64 0)]) (fun p6=>[(2,.pointer (some ⟨(p1 0).N,0,none⟩)),(3,.int .i64 0),(4,.bool false),(5,.pointer (some ⟨(p2 8).N,0,none⟩)),(7,.int .i64 (s:Int)),(16,.pointer (some ⟨(p6 7).N,0,none⟩)),(34,.bool false),(54,.bool false)]) (by kernel_rfl) (fun _ _=>by kernel_rfl) (fun _=>by kernel_rfl) (fun _=>by kernel_rfl) (fun p6=>?_) (fun p6 W6 T hF hK=>?_)
 ·refine ok_L (by kernel_rfl) (by kernel_rfl) (by kernel_rfl) ?_
  refine ok_v (by kernel_rfl) ?_
  refine ok_vi ((wr64 (x:=(s:Int) - 128) (by omega) (by omega)).trans (by omega)) (by kernel_rfl) ?_
  refine ok_c (fun W cx=>as_o cx.hb (rdown_is (k:=s - 128) ht (by omega) _ _ _ (p2 4).C (Mine.num cx.G.1))) (by kernel_rfl) ?_
  iterate 3 refine ok_v (by kernel_rfl) ?_
  refine ok_n (fun _=>by kernel_rfl) ?_
  refine ok_P (by kernel_rfl) (by kernel_rfl) (by kernel_rfl) ?_
  refine ok_v (by kernel_rfl) ?_
  exact ok_nil
 replace hS:=SymF.fb hS hF [0,1,1007] [⟨(p1 0).N,#[.slice none 0 0],65,true⟩,⟨(p2 8).N,#[.slice (p2 4).A (p2 4).N (p2 4).C],65,true⟩,⟨(p6 7).N,#[.slice (p6 3).A (p6 3).N (p6 3).C],65,true⟩] (by kernel_rfl) (by kernel_rfl)
 replace hG:GsAt (gM W5.heap.size (p6 3).A (p6 3).N (p6 3).C t :: _) W6:=⟨hF.fx 3,hF.gx⟩
 clear hF
 have z6:=hS.fr.size
 refine wp_symQ hS hG hK (fun p7=>[.l 73 (.agg #[.slice (p6 3).A (p6 3).N (p6 3).C]) 2 0,.v 74 (.int .i64 (s:Int)),.v 75 (.int .i64 ((s - 128:Nat):Int)),.c (some 76) (cO W6.heap.size u),.v 72 (.tuple #[.agg #[.slice (p7 3).A (p7 3).N (p7 3).C],.int .i64 0]),.v 77 (.agg #[.slice (p7 3).A (p7 3).N (p7 3).C]),.v 78 (.int .i64 0),.n 18 #[.slice none 0 0] 65,.p 1007 0 [.slice (p7 3).A (p7 3).N (p7 3).C],.v 19 (.int .i64 0)]) (fun p7=>[(2,.pointer (some ⟨(p1 0).N,0,none⟩)),(3,.int .i64 0),(4,.bool false),(5,.pointer (some ⟨(p2 8).N,0,none⟩)),(7,.int .i64 (s:Int)),(16,.pointer (some ⟨(p6 7).N,0,none⟩)),(18,.pointer (some ⟨(p7 7).N,0,none⟩)),(34,.bool false),(54,.bool false)]) (by kernel_rfl) (fun _ _=>by kernel_rfl) (fun _=>by kernel_rfl) (fun _=>by kernel_rfl) (fun p7=>?_) (fun p7 W7 T hF hK=>?_)
 ·refine ok_L (by kernel_rfl) (by kernel_rfl) (by kernel_rfl) ?_
  refine ok_v (by kernel_rfl) ?_
  refine ok_vi ((wr64 (x:=(s:Int) - 128) (by omega) (by omega)).trans (by omega)) (by kernel_rfl) ?_
  refine ok_c (fun W cx=>as_o cx.hb (rup_is (k:=s - 128) hu hue (by omega) (by omega) _ _ _ (p6 3).C (Mine.num cx.G.1))) (by kernel_rfl) ?_
  iterate 3 refine ok_v (by kernel_rfl) ?_
  refine ok_n (fun _=>by kernel_rfl) ?_
  refine ok_P (by kernel_rfl) (by kernel_rfl) (by kernel_rfl) ?_
  refine ok_v (by kernel_rfl) ?_
  exact ok_nil
 replace hS:=SymF.fb hS hF [0,1,2,1007] [⟨(p1 0).N,#[.slice none 0 0],65,true⟩,⟨(p2 8).N,#[.slice (p2 4).A (p2 4).N (p2 4).C],65,true⟩,⟨(p6 7).N,#[.slice (p6 3).A (p6 3).N (p6 3).C],65,true⟩,⟨(p7 7).N,#[.slice (p7 3).A (p7 3).N (p7 3).C],65,true⟩] (by kernel_rfl) (by kernel_rfl)
 replace hG:GsAt (gM W6.heap.size (p7 3).A (p7 3).N (p7 3).C u :: _) W7:=⟨hF.fx 3,hF.gx⟩
 clear hF
 have z7:=hS.fr.size
 refine wp_symQ hS hG hK (fun p8=>[.l 79 (.agg #[.slice (p6 3).A (p6 3).N (p6 3).C]) 2 0,.v 80 (.int .i64 (s:Int)),.v 81 (.int .i64 ((s - 128:Nat):Int)),.l 82 (.agg #[.slice (p7 3).A (p7 3).N (p7 3).C]) 3 0,.l 83 (.agg #[.slice (p2 4).A (p2 4).N (p2 4).C]) 1 0,.c (some 84) (cV (.bool b)),.p 0 0 [.slice (p6 3).A (p6 3).N (p6 3).C],.v 3 (.int .i64 ((s - 128:Nat):Int)),.v 4 (.bool b)]) (fun p8=>[(2,.pointer (some ⟨(p1 0).N,0,none⟩)),(3,.int .i64 ((s - 128:Nat):Int)),(4,.bool b),(5,.pointer (some ⟨(p2 8).N,0,none⟩)),(7,.int .i64 (s:Int)),(34,.bool false),(54,.bool false)]) (by kernel_rfl) (fun _ _=>by kernel_rfl) (fun _=>by kernel_rfl) (fun _=>by kernel_rfl) (fun p8=>?_) (fun p8 W8 T hF hK=>?_)
 ·refine ok_L (by kernel_rfl) (by kernel_rfl) (by kernel_rfl) ?_
  refine ok_v (by kernel_rfl) ?_
  refine ok_vi ((wr64 (x:=(s:Int) - 128) (by omega) (by omega)).trans (by omega)) (by kernel_rfl) ?_
  iterate 2 refine ok_L (by kernel_rfl) (by kernel_rfl) (by kernel_rfl) ?_
  refine ok_c (fun W cx=>as_v (hb▸same_any _ _ _ _ (p7 3).C (p2 4).C _ _ _ (Mine.num cx.G.1) (Mine.num cx.G.2.2.1))) (by kernel_rfl) ?_
  refine ok_P (by kernel_rfl) (by kernel_rfl) (by kernel_rfl) ?_
  iterate 2 refine ok_v (by kernel_rfl) ?_
  exact ok_nil
 replace hS:=SymF.fb hS hF [0,1] [⟨(p1 0).N,#[.slice (p6 3).A (p6 3).N (p6 3).C],65,true⟩,⟨(p2 8).N,#[.slice (p2 4).A (p2 4).N (p2 4).C],65,true⟩] (by kernel_rfl) (by kernel_rfl)
 replace hG:=hF.gx
 clear hF
 have z8:=hS.fr.size
 refine wp_ret ?_
 exact sym_end hS hK (.tuple #[.agg #[.slice (p6 3).A (p6 3).N (p6 3).C],.int .i64 ((s - 128:Nat):Int),.bool b]) [(0,0,1)] [.slice (p6 3).A (p6 3).N (p6 3).C] (by kernel_rfl) (by kernel_rfl) ⟨⟨_,_,_,rfl,Mine.mono hG.2.1 z5⟩,hS.fr⟩
theorem rTen_far (w:World) (k:Int)  (hk:k < -400∨400 < k) :
  Calls Tryd.prog 12 #[.int .i64 k] w fun en w'=>en = .returned (.tuple #[.int .u64 0,.int .u64 0,.int .i64 0,.int .i64 130])∧Below w.heap.size w w':=by
 refine calls_sym Tryd.func12 rfl (by kernel_rfl) fun T hK=>?_
 replace hK:Kn T _ [(0,.int .i64 k)]:=hK
 have hS:=Fb.begin w
 have hG:GsAt [] w:=trivial
 refine wp_symQ hS hG hK (fun p1=>[.v 2 (.int .u64 0),.v 3 (.int .u64 0),.v 4 (.int .i64 0),.v 5 (.int .i64 0)]) (fun p1=>[(0,.int .i64 k),(2,.int .u64 0),(3,.int .u64 0),(4,.int .i64 0),(5,.int .i64 0)]) (by kernel_rfl) (fun _ _=>by kernel_rfl) (fun _=>by kernel_rfl) (fun _=>by kernel_rfl) (fun p1=>?_) (fun p1 W1 T hF hK=>?_)
 ·iterate 4 refine ok_v (by kernel_rfl) ?_
  exact ok_nil
 replace hS:=SymF.fb hS hF [] [] (by kernel_rfl) (by kernel_rfl)
 replace hG:=hF.gx
 clear hF
 have z1:=hS.fr.size
 refine wp_seq ?_
 refine wp_symQ hS hG hK (fun p2=>[.v 11 (.int .i64 k),.c (some 12) (cV (.bool true))]) (fun p2=>[(0,.int .i64 k),(2,.int .u64 0),(3,.int .u64 0),(4,.int .i64 0),(5,.int .i64 0),(12,.bool true)]) (by kernel_rfl) (fun _ _=>by kernel_rfl) (fun _=>by kernel_rfl) (fun _=>by kernel_rfl) (fun p2=>?_) (fun p2 W2 T hF hK=>?_)
 ·refine ok_v (by kernel_rfl) ?_
  refine ok_c (fun W cx=>as_v (rfar_t _ _ hk)) (by kernel_rfl) ?_
  exact ok_nil
 replace hS:=SymF.fb hS hF [] [] (by kernel_rfl) (by kernel_rfl)
 replace hG:=hF.gx
 clear hF
 have z2:=hS.fr.size
 refine wp_cond_true (hK.ev 12 (by kernel_rfl) _ (by kernel_rfl)) ?_
 refine wp_symQ hS hG hK (fun p3=>[.v 2 (.int .u64 0),.v 3 (.int .u64 0),.v 4 (.int .i64 0),.v 5 (.int .i64 130)]) (fun p3=>[(0,.int .i64 k),(2,.int .u64 0),(3,.int .u64 0),(4,.int .i64 0),(5,.int .i64 130),(12,.bool true)]) (by kernel_rfl) (fun _ _=>by kernel_rfl) (fun _=>by kernel_rfl) (fun _=>by kernel_rfl) (fun p3=>?_) (fun p3 W3 T hF hK=>?_)
 ·iterate 4 refine ok_v (by kernel_rfl) ?_
  exact ok_nil
 replace hS:=SymF.fb hS hF [] [] (by kernel_rfl) (by kernel_rfl)
 replace hG:=hF.gx
 clear hF
 have z3:=hS.fr.size
 refine wp_ret ?_
 refine then_r ?_
 exact sym_end hS hK (.tuple #[.int .u64 0,.int .u64 0,.int .i64 0,.int .i64 130]) [] [] (by kernel_rfl) (by kernel_rfl) ⟨rfl,hS.fr⟩
theorem rWhole_far (w:World) (k:Int)  (hk:k < -400∨400 < k) :
  Calls Tryd.prog 7 #[.int .i64 k] w fun en w'=>en = .returned (.tuple #[.bool false,.int .i64 130])∧Below w.heap.size w w':=by
 refine calls_sym Tryd.func7 rfl (by kernel_rfl) fun T hK=>?_
 replace hK:Kn T _ [(0,.int .i64 k)]:=hK
 have hS:=Fb.begin w
 have hG:GsAt [] w:=trivial
 refine wp_symQ hS hG hK (fun p1=>[.v 2 (.bool false),.v 3 (.int .i64 0)]) (fun p1=>[(0,.int .i64 k),(2,.bool false),(3,.int .i64 0)]) (by kernel_rfl) (fun _ _=>by kernel_rfl) (fun _=>by kernel_rfl) (fun _=>by kernel_rfl) (fun p1=>?_) (fun p1 W1 T hF hK=>?_)
 ·iterate 2 refine ok_v (by kernel_rfl) ?_
  exact ok_nil
 replace hS:=SymF.fb hS hF [] [] (by kernel_rfl) (by kernel_rfl)
 replace hG:=hF.gx
 clear hF
 have z1:=hS.fr.size
 refine wp_seq ?_
 refine wp_symQ hS hG hK (fun p2=>[.v 7 (.int .i64 k),.c (some 8) (cV (.bool true))]) (fun p2=>[(0,.int .i64 k),(2,.bool false),(3,.int .i64 0),(8,.bool true)]) (by kernel_rfl) (fun _ _=>by kernel_rfl) (fun _=>by kernel_rfl) (fun _=>by kernel_rfl) (fun p2=>?_) (fun p2 W2 T hF hK=>?_)
 ·refine ok_v (by kernel_rfl) ?_
  refine ok_c (fun W cx=>as_v (rfar_t _ _ hk)) (by kernel_rfl) ?_
  exact ok_nil
 replace hS:=SymF.fb hS hF [] [] (by kernel_rfl) (by kernel_rfl)
 replace hG:=hF.gx
 clear hF
 have z2:=hS.fr.size
 refine wp_cond_true (hK.ev 8 (by kernel_rfl) _ (by kernel_rfl)) ?_
 refine wp_symQ hS hG hK (fun p3=>[.v 2 (.bool false),.v 3 (.int .i64 130)]) (fun p3=>[(0,.int .i64 k),(2,.bool false),(3,.int .i64 130),(8,.bool true)]) (by kernel_rfl) (fun _ _=>by kernel_rfl) (fun _=>by kernel_rfl) (fun _=>by kernel_rfl) (fun p3=>?_) (fun p3 W3 T hF hK=>?_)
 ·iterate 2 refine ok_v (by kernel_rfl) ?_
  exact ok_nil
 replace hS:=SymF.fb hS hF [] [] (by kernel_rfl) (by kernel_rfl)
 replace hG:=hF.gx
 clear hF
 have z3:=hS.fr.size
 refine wp_ret ?_
 refine then_r ?_
 exact sym_end hS hK (.tuple #[.bool false,.int .i64 130]) [] [] (by kernel_rfl) (by kernel_rfl) ⟨rfl,hS.fr⟩
theorem rTimes_far (w:World) (m:Int) (k:Int)  (hk:k < -400∨400 < k) :
  Calls Tryd.prog 9 #[.int .u64 m,.int .i64 k] w fun en w'=>en = .returned (.tuple #[.int .u64 0,.int .u64 0,.bool false,.int .i64 130])∧Below w.heap.size w w':=by
 refine calls_sym Tryd.func9 rfl (by kernel_rfl) fun T hK=>?_
 replace hK:Kn T _ [(0,.int .u64 m),(1,.int .i64 k)]:=hK
 have hS:=Fb.begin w
 have hG:GsAt [] w:=trivial
 refine wp_symQ hS hG hK (fun p1=>[.v 4 (.int .u64 0),.v 5 (.int .u64 0),.v 6 (.bool false),.v 7 (.int .i64 0)]) (fun p1=>[(0,.int .u64 m),(1,.int .i64 k),(4,.int .u64 0),(5,.int .u64 0),(6,.bool false),(7,.int .i64 0)]) (by kernel_rfl) (fun _ _=>by kernel_rfl) (fun _=>by kernel_rfl) (fun _=>by kernel_rfl) (fun p1=>?_) (fun p1 W1 T hF hK=>?_)
 ·iterate 4 refine ok_v (by kernel_rfl) ?_
  exact ok_nil
 replace hS:=SymF.fb hS hF [] [] (by kernel_rfl) (by kernel_rfl)
 replace hG:=hF.gx
 clear hF
 have z1:=hS.fr.size
 refine wp_seq ?_
 refine wp_symQ hS hG hK (fun p2=>[.v 19 (.int .i64 k),.c (some 20) (cV (.bool true))]) (fun p2=>[(0,.int .u64 m),(1,.int .i64 k),(4,.int .u64 0),(5,.int .u64 0),(6,.bool false),(7,.int .i64 0),(20,.bool true)]) (by kernel_rfl) (fun _ _=>by kernel_rfl) (fun _=>by kernel_rfl) (fun _=>by kernel_rfl) (fun p2=>?_) (fun p2 W2 T hF hK=>?_)
 ·refine ok_v (by kernel_rfl) ?_
  refine ok_c (fun W cx=>as_v (rfar_t _ _ hk)) (by kernel_rfl) ?_
  exact ok_nil
 replace hS:=SymF.fb hS hF [] [] (by kernel_rfl) (by kernel_rfl)
 replace hG:=hF.gx
 clear hF
 have z2:=hS.fr.size
 refine wp_cond_true (hK.ev 20 (by kernel_rfl) _ (by kernel_rfl)) ?_
 refine wp_symQ hS hG hK (fun p3=>[.v 4 (.int .u64 0),.v 5 (.int .u64 0),.v 6 (.bool false),.v 7 (.int .i64 130)]) (fun p3=>[(0,.int .u64 m),(1,.int .i64 k),(4,.int .u64 0),(5,.int .u64 0),(6,.bool false),(7,.int .i64 130),(20,.bool true)]) (by kernel_rfl) (fun _ _=>by kernel_rfl) (fun _=>by kernel_rfl) (fun _=>by kernel_rfl) (fun p3=>?_) (fun p3 W3 T hF hK=>?_)
 ·iterate 4 refine ok_v (by kernel_rfl) ?_
  exact ok_nil
 replace hS:=SymF.fb hS hF [] [] (by kernel_rfl) (by kernel_rfl)
 replace hG:=hF.gx
 clear hF
 have z3:=hS.fr.size
 refine wp_ret ?_
 refine then_r ?_
 exact sym_end hS hK (.tuple #[.int .u64 0,.int .u64 0,.bool false,.int .i64 130]) [] [] (by kernel_rfl) (by kernel_rfl) ⟨rfl,hS.fr⟩
theorem rTen_in (w:World) (k:Int) (x:Int) (b:Bool) (N H L:Nat) (hk:-400≤k∧k≤400) (HTN:Hid (∀ W:World,Calls Tryd.prog 23 #[.int .i64 k] W fun en W'=>(∃ A n c,en = .returned (.tuple #[.agg #[.slice A n c],.int .i64 x,.bool b])∧Mine W' W.heap.size A n c N)∧Below W.heap.size W W')) (HB:Hid (∀ (W:World) (a:Option Addr) (n c:Nat),Num W a n N→Calls Tryd.prog 30 #[.agg #[.slice a n c]] W fun en W'=>en = .returned (.tuple #[.int .u64 (H:Int),.int .u64 (L:Int)])∧Below W.heap.size W W'))  :
  Calls Tryd.prog 12 #[.int .i64 k] w fun en w'=>en = .returned (.tuple #[.int .u64 (H:Int),.int .u64 (L:Int),.int .i64 x,.int .i64 0])∧Below w.heap.size w w':=by
 refine calls_sym Tryd.func12 rfl (by kernel_rfl) fun T hK=>?_
 replace hK:Kn T _ [(0,.int .i64 k)]:=hK
 have hS:=Fb.begin w
 have hG:GsAt [] w:=trivial
 refine wp_symQ hS hG hK (fun p1=>[.v 2 (.int .u64 0),.v 3 (.int .u64 0),.v 4 (.int .i64 0),.v 5 (.int .i64 0)]) (fun p1=>[(0,.int .i64 k),(2,.int .u64 0),(3,.int .u64 0),(4,.int .i64 0),(5,.int .i64 0)]) (by kernel_rfl) (fun _ _=>by kernel_rfl) (fun _=>by kernel_rfl) (fun _=>by kernel_rfl) (fun p1=>?_) (fun p1 W1 T hF hK=>?_)
 ·iterate 4 refine ok_v (by kernel_rfl) ?_
  exact ok_nil
 replace hS:=SymF.fb hS hF [] [] (by kernel_rfl) (by kernel_rfl)
 replace hG:=hF.gx
 clear hF
 have z1:=hS.fr.size
 refine wp_seq ?_
 refine wp_symQ hS hG hK (fun p2=>[.v 11 (.int .i64 k),.c (some 12) (cV (.bool false))]) (fun p2=>[(0,.int .i64 k),(2,.int .u64 0),(3,.int .u64 0),(4,.int .i64 0),(5,.int .i64 0),(12,.bool false)]) (by kernel_rfl) (fun _ _=>by kernel_rfl) (fun _=>by kernel_rfl) (fun _=>by kernel_rfl) (fun p2=>?_) (fun p2 W2 T hF hK=>?_)
 ·refine ok_v (by kernel_rfl) ?_
  refine ok_c (fun W cx=>as_v (rfar_f _ _ hk)) (by kernel_rfl) ?_
  exact ok_nil
 replace hS:=SymF.fb hS hF [] [] (by kernel_rfl) (by kernel_rfl)
 replace hG:=hF.gx
 clear hF
 have z2:=hS.fr.size
 refine wp_cond_false (hK.ev 12 (by kernel_rfl) _ (by kernel_rfl)) ?_
 refine wp_skip ?_
 refine then_n ?_
 refine wp_symQ hS hG hK (fun p3=>[.v 14 (.int .i64 k),.c (some 15) (cG W2.heap.size N fun x9=>.tuple #[.agg #[x9],.int .i64 x,.bool b]),.v 13 (.tuple #[.agg #[.slice (p3 1).A (p3 1).N (p3 1).C],.int .i64 x,.bool b]),.v 16 (.agg #[.slice (p3 1).A (p3 1).N (p3 1).C]),.v 17 (.int .i64 x),.v 18 (.bool b),.n 6 #[.slice none 0 0] 65,.p 1006 0 [.slice (p3 1).A (p3 1).N (p3 1).C],.v 7 (.int .i64 x),.v 8 (.bool b)]) (fun p3=>[(2,.int .u64 0),(3,.int .u64 0),(4,.int .i64 0),(5,.int .i64 0),(6,.pointer (some ⟨(p3 6).N,0,none⟩)),(7,.int .i64 x),(12,.bool false)]) (by kernel_rfl) (fun _ _=>by kernel_rfl) (fun _=>by kernel_rfl) (fun _=>by kernel_rfl) (fun p3=>?_) (fun p3 W3 T hF hK=>?_)
 ·refine ok_v (by kernel_rfl) ?_
  refine ok_c (fun W cx=>as_g cx.hb (unhide HTN _)) (by kernel_rfl) ?_
  iterate 4 refine ok_v (by kernel_rfl) ?_
  refine ok_n (fun _=>by kernel_rfl) ?_
  refine ok_P (by kernel_rfl) (by kernel_rfl) (by kernel_rfl) ?_
  iterate 2 refine ok_v (by kernel_rfl) ?_
  exact ok_nil
 replace hS:=SymF.fb hS hF [1006] [⟨(p3 6).N,#[.slice (p3 1).A (p3 1).N (p3 1).C],65,true⟩] (by kernel_rfl) (by kernel_rfl)
 replace hG:GsAt (gM W2.heap.size (p3 1).A (p3 1).N (p3 1).C N :: _) W3:=⟨hF.fx 1,hF.gx⟩
 clear hF
 have z3:=hS.fr.size
 refine wp_symQ hS hG hK (fun p4=>[.l 20 (.agg #[.slice (p3 1).A (p3 1).N (p3 1).C]) 0 0,.c (some 21) (cV (.tuple #[.int .u64 (H:Int),.int .u64 (L:Int)])),.v 19 (.tuple #[.int .u64 (H:Int),.int .u64 (L:Int)]),.v 22 (.int .u64 (H:Int)),.v 23 (.int .u64 (L:Int)),.v 9 (.int .u64 (H:Int)),.v 10 (.int .u64 (L:Int))]) (fun p4=>[(2,.int .u64 0),(3,.int .u64 0),(4,.int .i64 0),(5,.int .i64 0),(7,.int .i64 x),(9,.int .u64 (H:Int)),(10,.int .u64 (L:Int)),(12,.bool false)]) (by kernel_rfl) (fun _ _=>by kernel_rfl) (fun _=>by kernel_rfl) (fun _=>by kernel_rfl) (fun p4=>?_) (fun p4 W4 T hF hK=>?_)
 ·refine ok_L (by kernel_rfl) (by kernel_rfl) (by kernel_rfl) ?_
  refine ok_c (fun W cx=>as_v (unhide HB _ _ _ (p3 1).C (Mine.num cx.G.1))) (by kernel_rfl) ?_
  iterate 5 refine ok_v (by kernel_rfl) ?_
  exact ok_nil
 replace hS:=SymF.fb hS hF [] [] (by kernel_rfl) (by kernel_rfl)
 replace hG:=hF.gx
 clear hF
 have z4:=hS.fr.size
 refine wp_symQ hS hG hK (fun p5=>[.v 24 (.int .u64 (H:Int)),.v 25 (.int .u64 (L:Int)),.v 26 (.int .i64 x),.v 2 (.int .u64 (H:Int)),.v 3 (.int .u64 (L:Int)),.v 4 (.int .i64 x),.v 5 (.int .i64 0)]) (fun p5=>[(2,.int .u64 (H:Int)),(3,.int .u64 (L:Int)),(4,.int .i64 x),(5,.int .i64 0),(12,.bool false)]) (by kernel_rfl) (fun _ _=>by kernel_rfl) (fun _=>by kernel_rfl) (fun _=>by kernel_rfl) (fun p5=>?_) (fun p5 W5 T hF hK=>?_)
 ·iterate 7 refine ok_v (by kernel_rfl) ?_
  exact ok_nil
 replace hS:=SymF.fb hS hF [] [] (by kernel_rfl) (by kernel_rfl)
 replace hG:=hF.gx
 clear hF
 have z5:=hS.fr.size
 refine wp_ret ?_
 exact sym_end hS hK (.tuple #[.int .u64 (H:Int),.int .u64 (L:Int),.int .i64 x,.int .i64 0]) [] [] (by kernel_rfl) (by kernel_rfl) ⟨rfl,hS.fr⟩
theorem rWhole_in (w:World) (k:Int) (x:Int) (b:Bool) (N:Nat) (hk:-400≤k∧k≤400) (HTN:Hid (∀ W:World,Calls Tryd.prog 23 #[.int .i64 k] W fun en W'=>(∃ A n c,en = .returned (.tuple #[.agg #[.slice A n c],.int .i64 x,.bool b])∧Mine W' W.heap.size A n c N)∧Below W.heap.size W W'))  :
  Calls Tryd.prog 7 #[.int .i64 k] w fun en w'=>en = .returned (.tuple #[.bool b,.int .i64 0])∧Below w.heap.size w w':=by
 refine calls_sym Tryd.func7 rfl (by kernel_rfl) fun T hK=>?_
 replace hK:Kn T _ [(0,.int .i64 k)]:=hK
 have hS:=Fb.begin w
 have hG:GsAt [] w:=trivial
 refine wp_symQ hS hG hK (fun p1=>[.v 2 (.bool false),.v 3 (.int .i64 0)]) (fun p1=>[(0,.int .i64 k),(2,.bool false),(3,.int .i64 0)]) (by kernel_rfl) (fun _ _=>by kernel_rfl) (fun _=>by kernel_rfl) (fun _=>by kernel_rfl) (fun p1=>?_) (fun p1 W1 T hF hK=>?_)
 ·iterate 2 refine ok_v (by kernel_rfl) ?_
  exact ok_nil
 replace hS:=SymF.fb hS hF [] [] (by kernel_rfl) (by kernel_rfl)
 replace hG:=hF.gx
 clear hF
 have z1:=hS.fr.size
 refine wp_seq ?_
 refine wp_symQ hS hG hK (fun p2=>[.v 7 (.int .i64 k),.c (some 8) (cV (.bool false))]) (fun p2=>[(0,.int .i64 k),(2,.bool false),(3,.int .i64 0),(8,.bool false)]) (by kernel_rfl) (fun _ _=>by kernel_rfl) (fun _=>by kernel_rfl) (fun _=>by kernel_rfl) (fun p2=>?_) (fun p2 W2 T hF hK=>?_)
 ·refine ok_v (by kernel_rfl) ?_
  refine ok_c (fun W cx=>as_v (rfar_f _ _ hk)) (by kernel_rfl) ?_
  exact ok_nil
 replace hS:=SymF.fb hS hF [] [] (by kernel_rfl) (by kernel_rfl)
 replace hG:=hF.gx
 clear hF
 have z2:=hS.fr.size
 refine wp_cond_false (hK.ev 8 (by kernel_rfl) _ (by kernel_rfl)) ?_
 refine wp_skip ?_
 refine then_n ?_
 refine wp_symQ hS hG hK (fun p3=>[.v 10 (.int .i64 k),.c (some 11) (cG W2.heap.size N fun x9=>.tuple #[.agg #[x9],.int .i64 x,.bool b]),.v 9 (.tuple #[.agg #[.slice (p3 1).A (p3 1).N (p3 1).C],.int .i64 x,.bool b]),.v 12 (.agg #[.slice (p3 1).A (p3 1).N (p3 1).C]),.v 13 (.int .i64 x),.v 14 (.bool b),.n 4 #[.slice none 0 0] 65,.p 1006 0 [.slice (p3 1).A (p3 1).N (p3 1).C],.v 5 (.int .i64 x),.v 6 (.bool b)]) (fun p3=>[(2,.bool false),(3,.int .i64 0),(6,.bool b),(8,.bool false)]) (by kernel_rfl) (fun _ _=>by kernel_rfl) (fun _=>by kernel_rfl) (fun _=>by kernel_rfl) (fun p3=>?_) (fun p3 W3 T hF hK=>?_)
 ·refine ok_v (by kernel_rfl) ?_
  refine ok_c (fun W cx=>as_g cx.hb (unhide HTN _)) (by kernel_rfl) ?_
  iterate 4 refine ok_v (by kernel_rfl) ?_
  refine ok_n (fun _=>by kernel_rfl) ?_
  refine ok_P (by kernel_rfl) (by kernel_rfl) (by kernel_rfl) ?_
  iterate 2 refine ok_v (by kernel_rfl) ?_
  exact ok_nil
 replace hS:=SymF.fb hS hF [] [] (by kernel_rfl) (by kernel_rfl)
 replace hG:GsAt (gM W2.heap.size (p3 1).A (p3 1).N (p3 1).C N :: _) W3:=⟨hF.fx 1,hF.gx⟩
 clear hF
 have z3:=hS.fr.size
 refine wp_symQ hS hG hK (fun p4=>[.v 15 (.bool b),.v 2 (.bool b),.v 3 (.int .i64 0)]) (fun p4=>[(2,.bool b),(3,.int .i64 0),(8,.bool false)]) (by kernel_rfl) (fun _ _=>by kernel_rfl) (fun _=>by kernel_rfl) (fun _=>by kernel_rfl) (fun p4=>?_) (fun p4 W4 T hF hK=>?_)
 ·iterate 3 refine ok_v (by kernel_rfl) ?_
  exact ok_nil
 replace hS:=SymF.fb hS hF [] [] (by kernel_rfl) (by kernel_rfl)
 replace hG:=hF.gx
 clear hF
 have z4:=hS.fr.size
 refine wp_ret ?_
 exact sym_end hS hK (.tuple #[.bool b,.int .i64 0]) [] [] (by kernel_rfl) (by kernel_rfl) ⟨rfl,hS.fr⟩
theorem rTimes_in (w:World) (m:Nat) (k:Int) (x:Int) (b:Bool) (N p q u H L:Nat) (same:Bool) (hk:-400≤k∧k≤400) (HTN:Hid (∀ W:World,Calls Tryd.prog 23 #[.int .i64 k] W fun en W'=>(∃ A n c,en = .returned (.tuple #[.agg #[.slice A n c],.int .i64 x,.bool b])∧Mine W' W.heap.size A n c N)∧Below W.heap.size W W')) (hm:m < 18446744073709551616) (hp:N * m = p) (hpe:p < 2 ^ 192) (hq:p / 2 ^ 64 = q) (hu:q * 2 ^ 64 = u) (hue:u < 2 ^ 192) (hb:decide (u = p) = same) (HB:Hid (∀ (W:World) (a:Option Addr) (n c:Nat),Num W a n q→Calls Tryd.prog 30 #[.agg #[.slice a n c]] W fun en W'=>en = .returned (.tuple #[.int .u64 (H:Int),.int .u64 (L:Int)])∧Below W.heap.size W W'))  :
  Calls Tryd.prog 9 #[.int .u64 (m:Int),.int .i64 k] w fun en w'=>en = .returned (.tuple #[.int .u64 (H:Int),.int .u64 (L:Int),.bool (!same),.int .i64 0])∧Below w.heap.size w w':=by
 refine calls_sym Tryd.func9 rfl (by kernel_rfl) fun T hK=>?_
 replace hK:Kn T _ [(0,.int .u64 (m:Int)),(1,.int .i64 k)]:=hK
 have hS:=Fb.begin w
 have hG:GsAt [] w:=trivial
 refine wp_symQ hS hG hK (fun p1=>[.v 4 (.int .u64 0),.v 5 (.int .u64 0),.v 6 (.bool false),.v 7 (.int .i64 0)]) (fun p1=>[(0,.int .u64 (m:Int)),(1,.int .i64 k),(4,.int .u64 0),(5,.int .u64 0),(6,.bool false),(7,.int .i64 0)]) (by kernel_rfl) (fun _ _=>by kernel_rfl) (fun _=>by kernel_rfl) (fun _=>by kernel_rfl) (fun p1=>?_) (fun p1 W1 T hF hK=>?_)
 ·iterate 4 refine ok_v (by kernel_rfl) ?_
  exact ok_nil
 replace hS:=SymF.fb hS hF [] [] (by kernel_rfl) (by kernel_rfl)
 replace hG:=hF.gx
 clear hF
 have z1:=hS.fr.size
 refine wp_seq ?_
 refine wp_symQ hS hG hK (fun p2=>[.v 19 (.int .i64 k),.c (some 20) (cV (.bool false))]) (fun p2=>[(0,.int .u64 (m:Int)),(1,.int .i64 k),(4,.int .u64 0),(5,.int .u64 0),(6,.bool false),(7,.int .i64 0),(20,.bool false)]) (by kernel_rfl) (fun _ _=>by kernel_rfl) (fun _=>by kernel_rfl) (fun _=>by kernel_rfl) (fun p2=>?_) (fun p2 W2 T hF hK=>?_)
 ·refine ok_v (by kernel_rfl) ?_
  refine ok_c (fun W cx=>as_v (rfar_f _ _ hk)) (by kernel_rfl) ?_
  exact ok_nil
 replace hS:=SymF.fb hS hF [] [] (by kernel_rfl) (by kernel_rfl)
 replace hG:=hF.gx
 clear hF
 have z2:=hS.fr.size
 refine wp_cond_false (hK.ev 20 (by kernel_rfl) _ (by kernel_rfl)) ?_
 refine wp_skip ?_
 refine then_n ?_
 refine wp_symQ hS hG hK (fun p3=>[.v 22 (.int .i64 k),.c (some 23) (cG W2.heap.size N fun x9=>.tuple #[.agg #[x9],.int .i64 x,.bool b]),.v 21 (.tuple #[.agg #[.slice (p3 1).A (p3 1).N (p3 1).C],.int .i64 x,.bool b]),.v 24 (.agg #[.slice (p3 1).A (p3 1).N (p3 1).C]),.v 25 (.int .i64 x),.v 26 (.bool b),.n 8 #[.slice none 0 0] 65,.p 1006 0 [.slice (p3 1).A (p3 1).N (p3 1).C],.v 9 (.int .i64 x),.v 10 (.bool b)]) (fun p3=>[(0,.int .u64 (m:Int)),(4,.int .u64 0),(5,.int .u64 0),(6,.bool false),(7,.int .i64 0),(8,.pointer (some ⟨(p3 6).N,0,none⟩)),(20,.bool false)]) (by kernel_rfl) (fun _ _=>by kernel_rfl) (fun _=>by kernel_rfl) (fun _=>by kernel_rfl) (fun p3=>?_) (fun p3 W3 T hF hK=>?_)
 ·refine ok_v (by kernel_rfl) ?_
  refine ok_c (fun W cx=>as_g cx.hb (unhide HTN _)) (by kernel_rfl) ?_
  iterate 4 refine ok_v (by kernel_rfl) ?_
  refine ok_n (fun _=>by kernel_rfl) ?_
  refine ok_P (by kernel_rfl) (by kernel_rfl) (by kernel_rfl) ?_
  iterate 2 refine ok_v (by kernel_rfl) ?_
  exact ok_nil
 replace hS:=SymF.fb hS hF [1006] [⟨(p3 6).N,#[.slice (p3 1).A (p3 1).N (p3 1).C],65,true⟩] (by kernel_rfl) (by kernel_rfl)
 replace hG:GsAt (gM W2.heap.size (p3 1).A (p3 1).N (p3 1).C N :: _) W3:=⟨hF.fx 1,hF.gx⟩
 clear hF
 have z3:=hS.fr.size
 refine wp_symQ hS hG hK (fun p4=>[.l 28 (.agg #[.slice (p3 1).A (p3 1).N (p3 1).C]) 0 0,.v 29 (.int .u64 (m:Int)),.c (some 30) (cN W3.heap.size m),.c (some 31) (cO W3.heap.size p),.v 27 (.tuple #[.agg #[.slice (p4 3).A (p4 3).N (p4 3).C],.int .i64 0]),.v 32 (.agg #[.slice (p4 3).A (p4 3).N (p4 3).C]),.v 33 (.int .i64 0),.n 11 #[.slice none 0 0] 65,.p 1007 0 [.slice (p4 3).A (p4 3).N (p4 3).C],.v 12 (.int .i64 0)]) (fun p4=>[(4,.int .u64 0),(5,.int .u64 0),(6,.bool false),(7,.int .i64 0),(11,.pointer (some ⟨(p4 7).N,0,none⟩)),(20,.bool false)]) (by kernel_rfl) (fun _ _=>by kernel_rfl) (fun _=>by kernel_rfl) (fun _=>by kernel_rfl) (fun p4=>?_) (fun p4 W4 T hF hK=>?_)
 ·refine ok_L (by kernel_rfl) (by kernel_rfl) (by kernel_rfl) ?_
  refine ok_v (by kernel_rfl) ?_
  refine ok_c (fun W cx=>as_n cx.hb (rof_any m _ hm)) (by kernel_rfl) ?_
  refine ok_c (fun W cx=>as_o cx.hb (rmul_is hp hpe (by omega) _ _ _ (p3 1).C _ _ (p4 2).C (Mine.num cx.G.1) (Mine.num (cx.F 2 (by kernel_rfl))))) (by kernel_rfl) ?_
  iterate 3 refine ok_v (by kernel_rfl) ?_
  refine ok_n (fun _=>by kernel_rfl) ?_
  refine ok_P (by kernel_rfl) (by kernel_rfl) (by kernel_rfl) ?_
  refine ok_v (by kernel_rfl) ?_
  exact ok_nil
 replace hS:=SymF.fb hS hF [1007] [⟨(p4 7).N,#[.slice (p4 3).A (p4 3).N (p4 3).C],65,true⟩] (by kernel_rfl) (by kernel_rfl)
 replace hG:GsAt (gM W3.heap.size (p4 2).A (p4 2).N (p4 2).C m :: gM W3.heap.size (p4 3).A (p4 3).N (p4 3).C p :: _) W4:=⟨hF.fx 2,hF.fx 3,hF.gx⟩
 clear hF
 have z4:=hS.fr.size
 refine wp_symQ hS hG hK (fun p5=>[.l 35 (.agg #[.slice (p4 3).A (p4 3).N (p4 3).C]) 0 0,.c (some 36) (cO W4.heap.size q),.v 34 (.tuple #[.agg #[.slice (p5 1).A (p5 1).N (p5 1).C],.int .i64 0]),.v 37 (.agg #[.slice (p5 1).A (p5 1).N (p5 1).C]),.v 38 (.int .i64 0),.n 13 #[.slice none 0 0] 65,.p 1005 0 [.slice (p5 1).A (p5 1).N (p5 1).C],.v 14 (.int .i64 0)]) (fun p5=>[(4,.int .u64 0),(5,.int .u64 0),(6,.bool false),(7,.int .i64 0),(11,.pointer (some ⟨(p4 7).N,0,none⟩)),(13,.pointer (some ⟨(p5 5).N,0,none⟩)),(20,.bool false)]) (by kernel_rfl) (fun _ _=>by kernel_rfl) (fun _=>by kernel_rfl) (fun _=>by kernel_rfl) (fun p5=>?_) (fun p5 W5 T hF hK=>?_)
 ·refine ok_L (by kernel_rfl) (by kernel_rfl) (by kernel_rfl) ?_
  refine ok_c (fun W cx=>as_o cx.hb (rdown_is (k:=64) hq (by omega) _ _ _ (p4 3).C (Mine.num cx.G.2.1))) (by kernel_rfl) ?_
  iterate 3 refine ok_v (by kernel_rfl) ?_
  refine ok_n (fun _=>by kernel_rfl) ?_
  refine ok_P (by kernel_rfl) (by kernel_rfl) (by kernel_rfl) ?_
  refine ok_v (by kernel_rfl) ?_
  exact ok_nil
 replace hS:=SymF.fb hS hF [0,1005] [⟨(p4 7).N,#[.slice (p4 3).A (p4 3).N (p4 3).C],65,true⟩,⟨(p5 5).N,#[.slice (p5 1).A (p5 1).N (p5 1).C],65,true⟩] (by kernel_rfl) (by kernel_rfl)
 replace hG:GsAt (gM W4.heap.size (p5 1).A (p5 1).N (p5 1).C q :: _) W5:=⟨hF.fx 1,hF.gx⟩
 clear hF
 have z5:=hS.fr.size
 refine wp_symQ hS hG hK (fun p6=>[.l 40 (.agg #[.slice (p5 1).A (p5 1).N (p5 1).C]) 1 0,.c (some 41) (cO W5.heap.size u),.v 39 (.tuple #[.agg #[.slice (p6 1).A (p6 1).N (p6 1).C],.int .i64 0]),.v 42 (.agg #[.slice (p6 1).A (p6 1).N (p6 1).C]),.v 43 (.int .i64 0),.n 15 #[.slice none 0 0] 65,.p 1005 0 [.slice (p6 1).A (p6 1).N (p6 1).C],.v 16 (.int .i64 0)]) (fun p6=>[(4,.int .u64 0),(5,.int .u64 0),(6,.bool false),(7,.int .i64 0),(11,.pointer (some ⟨(p4 7).N,0,none⟩)),(13,.pointer (some ⟨(p5 5).N,0,none⟩)),(15,.pointer (some ⟨(p6 5).N,0,none⟩)),(20,.bool false)]) (by kernel_rfl) (fun _ _=>by kernel_rfl) (fun _=>by kernel_rfl) (fun _=>by kernel_rfl) (fun p6=>?_) (fun p6 W6 T hF hK=>?_)
 ·refine ok_L (by kernel_rfl) (by kernel_rfl) (by kernel_rfl) ?_
  refine ok_c (fun W cx=>as_o cx.hb (rup_is (k:=64) hu hue (by omega) (by omega) _ _ _ (p5 1).C (Mine.num cx.G.1))) (by kernel_rfl) ?_
  iterate 3 refine ok_v (by kernel_rfl) ?_
  refine ok_n (fun _=>by kernel_rfl) ?_
  refine ok_P (by kernel_rfl) (by kernel_rfl) (by kernel_rfl) ?_
  refine ok_v (by kernel_rfl) ?_
  exact ok_nil
 replace hS:=SymF.fb hS hF [0,1,1005] [⟨(p4 7).N,#[.slice (p4 3).A (p4 3).N (p4 3).C],65,true⟩,⟨(p5 5).N,#[.slice (p5 1).A (p5 1).N (p5 1).C],65,true⟩,⟨(p6 5).N,#[.slice (p6 1).A (p6 1).N (p6 1).C],65,true⟩] (by kernel_rfl) (by kernel_rfl)
 replace hG:GsAt (gM W5.heap.size (p6 1).A (p6 1).N (p6 1).C u :: _) W6:=⟨hF.fx 1,hF.gx⟩
 clear hF
 have z6:=hS.fr.size
 refine wp_symQ hS hG hK (fun p7=>[.l 45 (.agg #[.slice (p5 1).A (p5 1).N (p5 1).C]) 1 0,.c (some 46) (cV (.tuple #[.int .u64 (H:Int),.int .u64 (L:Int)])),.v 44 (.tuple #[.int .u64 (H:Int),.int .u64 (L:Int)]),.v 47 (.int .u64 (H:Int)),.v 48 (.int .u64 (L:Int)),.v 17 (.int .u64 (H:Int)),.v 18 (.int .u64 (L:Int))]) (fun p7=>[(4,.int .u64 0),(5,.int .u64 0),(6,.bool false),(7,.int .i64 0),(11,.pointer (some ⟨(p4 7).N,0,none⟩)),(15,.pointer (some ⟨(p6 5).N,0,none⟩)),(17,.int .u64 (H:Int)),(18,.int .u64 (L:Int)),(20,.bool false)]) (by kernel_rfl) (fun _ _=>by kernel_rfl) (fun _=>by kernel_rfl) (fun _=>by kernel_rfl) (fun p7=>?_) (fun p7 W7 T hF hK=>?_)
 ·refine ok_L (by kernel_rfl) (by kernel_rfl) (by kernel_rfl) ?_
  refine ok_c (fun W cx=>as_v (unhide HB _ _ _ (p5 1).C (Mine.num cx.G.2.1))) (by kernel_rfl) ?_
  iterate 5 refine ok_v (by kernel_rfl) ?_
  exact ok_nil
 replace hS:=SymF.fb hS hF [0,2] [⟨(p4 7).N,#[.slice (p4 3).A (p4 3).N (p4 3).C],65,true⟩,⟨(p6 5).N,#[.slice (p6 1).A (p6 1).N (p6 1).C],65,true⟩] (by kernel_rfl) (by kernel_rfl)
 replace hG:=hF.gx
 clear hF
 have z7:=hS.fr.size
 refine wp_symQ hS hG hK (fun p8=>[.v 49 (.int .u64 (H:Int)),.v 50 (.int .u64 (L:Int)),.l 51 (.agg #[.slice (p6 1).A (p6 1).N (p6 1).C]) 1 0,.l 52 (.agg #[.slice (p4 3).A (p4 3).N (p4 3).C]) 0 0,.c (some 53) (cV (.bool same)),.v 54 (.bool (!same)),.v 4 (.int .u64 (H:Int)),.v 5 (.int .u64 (L:Int)),.v 6 (.bool (!same)),.v 7 (.int .i64 0)]) (fun p8=>[(4,.int .u64 (H:Int)),(5,.int .u64 (L:Int)),(6,.bool (!same)),(7,.int .i64 0),(20,.bool false)]) (by kernel_rfl) (fun _ _=>by kernel_rfl) (fun _=>by kernel_rfl) (fun _=>by kernel_rfl) (fun p8=>?_) (fun p8 W8 T hF hK=>?_)
 ·iterate 2 refine ok_v (by kernel_rfl) ?_
  iterate 2 refine ok_L (by kernel_rfl) (by kernel_rfl) (by kernel_rfl) ?_
  refine ok_c (fun W cx=>as_v (hb▸same_any _ _ _ _ (p6 1).C (p4 3).C _ _ _ (Mine.num cx.G.1) (Mine.num cx.G.2.2.2.1))) (by kernel_rfl) ?_
  iterate 5 refine ok_v (by kernel_rfl) ?_
  exact ok_nil
 replace hS:=SymF.fb hS hF [] [] (by kernel_rfl) (by kernel_rfl)
 replace hG:=hF.gx
 clear hF
 have z8:=hS.fr.size
 refine wp_ret ?_
 exact sym_end hS hK (.tuple #[.int .u64 (H:Int),.int .u64 (L:Int),.bool (!same),.int .i64 0]) [] [] (by kernel_rfl) (by kernel_rfl) ⟨rfl,hS.fr⟩
theorem bl_le {m k e:Nat} (h:Bl m k) (hm:m < 2 ^ e):k≤e:=by
 rcases h.2 with h0|h0
 ·omega
 ·have:=(Nat.pow_lt_pow_iff_right (a:=2) (by decide)).1 (Nat.lt_of_le_of_lt h0 hm)
  omega
theorem bl_ge {m k e:Nat} (h:Bl m k) (hm:2 ^ e≤m):e < k:=
 (Nat.pow_lt_pow_iff_right (a:=2) (by decide)).1 (Nat.lt_of_le_of_lt hm h.1)
theorem bl_low {m k:Nat} (h:Bl m k) (hm:0 < m):0 < k∧2 ^ (k - 1)≤m:=by
 rcases h.2 with h0|h0
 ·subst h0; have:=h.1; rw [Nat.pow_zero] at this; omega
 ·refine ⟨?_,h0⟩
  rcases Nat.eq_zero_or_pos k with hk|hk
  ·subst hk; have:=h.1; rw [Nat.pow_zero] at this; omega
  ·exact hk
theorem bl_mul2 {m k:Nat} (j:Nat) (h:Bl m k) (hm:0 < m):Bl (m * 2 ^ j) (k+j):=by
 obtain ⟨h1,h2⟩:=bl_low h hm
 refine ⟨by rw [Nat.pow_add]; exact Nat.mul_lt_mul_of_pos_right h.1 (Nat.pow_pos (by decide)),Or.inr ?_⟩
 rw [show k+j - 1 = (k - 1)+j by omega,Nat.pow_add]
 exact Nat.mul_le_mul_right _ h2
theorem five_pos (j:Nat):0 < 5 ^ j:=Nat.pow_pos (by decide)
theorem five_odd (j:Nat):5 ^ j % 2 = 1:=by
 induction j with
 | zero=>rfl
 | succ j ih=>rw [Nat.pow_succ]; omega
theorem ten_eq (j:Nat):10 ^ j = 5 ^ j * 2 ^ j:=by rw [← Nat.mul_pow]
theorem five_lt {j e:Nat} (hj:j≤400) (he:1600 < e):5 ^ j < 2 ^ e:=by
 refine Nat.lt_of_le_of_lt (Nat.pow_le_pow_left (show 5≤2 ^ 4 by decide) j) ?_
 rw [← Nat.pow_mul]
 exact (Nat.pow_lt_pow_iff_right (by decide)).2 (by omega)
theorem tens_lt {j e:Nat} (hj:j≤400) (he:1600 < e):10 ^ j < 2 ^ e:=by
 refine Nat.lt_of_le_of_lt (Nat.pow_le_pow_left (show 10≤2 ^ 4 by decide) j) ?_
 rw [← Nat.pow_mul]
 exact (Nat.pow_lt_pow_iff_right (by decide)).2 (by omega)
theorem five_not_two {j e:Nat} (hj:0 < j):5 ^ j≠2 ^ e:=by
 intro h
 have h1:=five_odd j
 cases e with
 | zero=>
  rw [Nat.pow_zero] at h
  obtain ⟨i,rfl⟩:∃ i,j = i+1:=⟨j - 1,by omega⟩
  rw [Nat.pow_succ] at h
  have:=five_pos i
  omega
 | succ e=>rw [h,Nat.pow_succ] at h1; omega
theorem low_bounds {j s t:Nat} (hj:0 < j) (hs:Bl (5 ^ j) s) (ht:1 * 2 ^ (s+127) = t):2 ^ 127≤t / 5 ^ j∧t / 5 ^ j < 2 ^ 128:=by
 rw [Nat.one_mul] at ht
 subst ht
 obtain ⟨h0,h1⟩:=bl_low hs (five_pos j)
 constructor
 ·rw [Nat.le_div_iff_mul_le (five_pos j),Nat.pow_add,Nat.mul_comm (2 ^ s)]
  exact Nat.mul_le_mul_left _ (Nat.le_of_lt hs.1)
 ·rw [Nat.div_lt_iff_lt_mul (five_pos j)]
  have h2:2 ^ (s - 1) < 5 ^ j:=Nat.lt_of_le_of_ne h1 fun e=>five_not_two hj e.symm
  rw [show s+127 = (s - 1)+128 by omega,Nat.pow_add,Nat.mul_comm (2 ^ (s - 1))]
  exact Nat.mul_lt_mul_of_pos_left h2 (Nat.pow_pos (by decide))
theorem high_bounds {p s:Nat} (hp:0 < p) (hs:Bl p s) (h:128≤s):2 ^ 127≤p / 2 ^ (s - 128)∧p / 2 ^ (s - 128) < 2 ^ 128:=by
 obtain ⟨h0,h1⟩:=bl_low hs hp
 constructor
 ·rw [Nat.le_div_iff_mul_le (Nat.pow_pos (by decide)),← Nat.pow_add,show 127+(s - 128) = s - 1 by omega]; exact h1
 ·rw [Nat.div_lt_iff_lt_mul (Nat.pow_pos (by decide)),← Nat.pow_add,show 128+(s - 128) = s by omega]; exact hs.1
theorem mid_bounds {p s:Nat} (hp:0 < p) (hs:Bl p s) (h:s≤128):2 ^ 127≤p * 2 ^ (128 - s)∧p * 2 ^ (128 - s) < 2 ^ 128:=by
 obtain ⟨h0,h1⟩:=bl_low hs hp
 constructor
 ·have:=Nat.mul_le_mul_right (2 ^ (128 - s)) h1
  rw [← Nat.pow_add,show s - 1+(128 - s) = 127 by omega] at this; exact this
 ·have:=Nat.mul_lt_mul_of_pos_right hs.1 (show 0 < 2 ^ (128 - s) from Nat.pow_pos (by decide))
  rw [← Nat.pow_add,show s+(128 - s) = 128 by omega] at this; exact this
theorem limbs4 {xs:List Nat} {N:Nat} (hw:Pl.Wf xs) (hN:Pl.Norm xs) (hv:Pl.val xs = N) (h1:2 ^ 127≤N) (h2:N < 2 ^ 128):∃ x0 x1 x2 x3,xs = [x0,x1,x2,x3]∧x0 < 4294967296∧x1 < 4294967296∧x2 < 4294967296∧x3 < 4294967296∧x3 * 4294967296+x2 = N / 18446744073709551616∧x1 * 4294967296+x0 = N % 18446744073709551616:=by
 have e1:(4294967296:Nat) ^ 4 = 2 ^ 128:=by decide
 have e2:(4294967296:Nat) ^ 3 = 2 ^ 96:=by decide
 have l4:=(Pl.val_le_len hw hN 4).2 (by rw [hv,e1]; exact h2)
 have l3:¬ xs.length≤3:=fun h=>by
  have:=(Pl.val_le_len hw hN 3).1 h
  rw [hv,e2] at this
  have:(2:Nat) ^ 96 < 2 ^ 127:=by decide
  omega
 have l:xs.length = 4:=by omega
 clear l3 l4
 rcases xs with _|⟨x0,_|⟨x1,_|⟨x2,_|⟨x3,_|⟨x4,r⟩⟩⟩⟩⟩
 ·simp at l
 ·simp at l
 ·simp at l
 ·simp at l
 ·have b0:=hw x0 (by simp)
  have b1:=hw x1 (by simp)
  have b2:=hw x2 (by simp)
  have b3:=hw x3 (by simp)
  have hv2:x0+4294967296 * (x1+4294967296 * (x2+4294967296 * (x3+4294967296 * 0))) = N:=hv
  exact ⟨x0,x1,x2,x3,rfl,b0,b1,b2,b3,by omega,by omega⟩
 ·simp at l
theorem of128_num {N:Nat} (h1:2 ^ 127≤N) (h2:N < 2 ^ 128) (X:Int) (W:World) (B:Nat) (a:Option Addr) (n c:Nat) (h:Mine W B a n c N) :
  Calls Tryd.prog 94 #[.agg #[.slice a n c],.int .i64 X] W fun en W'=>en = .returned (.agg #[.int .u64 ((N / 18446744073709551616:Nat):Int),.int .u64 ((N % 18446744073709551616:Nat):Int),.int .i64 X])∧Below W.heap.size W W':=by
 obtain ⟨xs,k1,k2,k3,k4,k5,_⟩:=h
 have hr:=k2.room
 obtain ⟨x0,x1,x2,x3,rfl,b0,b1,b2,b3,e1,e2⟩:=limbs4 k3 k4 k5 h1 h2
 obtain rfl:4 = n:=k1
 obtain ⟨g,rfl,_,hg,hc,_⟩:=k2.open (by decide)
 have c0:=hc 0 (by decide)
 have c1:=hc 1 (by decide)
 have c2:=hc 2 (by decide)
 have c3:=hc 3 (by decide)
 refine of128_is W g 0 c _ _ X (by omega) (hide fun W' hb=>?_) (hide fun W' hb=>?_)
 ·exact word_is W' g (0+2) (c - 2) x2 x3 _ (Nat.lt_of_lt_of_le hg hb.size) ((hb.cell (p:=⟨g,2,none⟩) hg).trans c2) ((hb.cell (p:=⟨g,3,none⟩) hg).trans c3) b2 b3 e1
 ·exact word_is W' g (0+0) (c - 0) x0 x1 _ (Nat.lt_of_lt_of_le hg hb.size) ((hb.cell (p:=⟨g,0,none⟩) hg).trans c0) ((hb.cell (p:=⟨g,1,none⟩) hg).trans c1) b0 b1 e2
def RTen (k:Int) (N:Nat) (X:Int) (b:Bool):Prop:=∀ W:World,Calls Tryd.prog 23 #[.int .i64 k] W fun en W'=>(∃ A n c,en = .returned (.tuple #[.agg #[.slice A n c],.int .i64 X,.bool b])∧Mine W' W.heap.size A n c N)∧Below W.heap.size W W'
def PTen (k:Int) (N:Nat) (X:Int):Prop:=∀ W:World,Fv W→Calls Tryd.prog 32 #[.int .i64 k] W fun e W'=>e = .returned (.agg #[.int .u64 ((N / 18446744073709551616:Nat):Int),.int .u64 ((N % 18446744073709551616:Nat):Int),.int .i64 X])∧Below W.heap.size W W'
def PWhole (k:Int) (b:Bool):Prop:=∀ W:World,Calls Tryd.prog 21 #[.int .i64 k] W fun e W'=>e = .returned (.bool b)∧Below W.heap.size W W'
theorem ten_neg {j:Nat} (hj:j≤400) (hj0:0 < j):∃ N X b,RTen (-(j:Int)) N X b∧PTen (-(j:Int)) N X∧N < 2 ^ 128∧PWhole (-(j:Int)) b:=by
 obtain ⟨s,hs⟩:=bl_ex (5 ^ j)
 obtain ⟨e,he⟩:∃ e,e = 4000:=⟨_,rfl⟩
 obtain ⟨e1,he1⟩:∃ e1,e1 = 1601:=⟨_,rfl⟩
 have hs2:=bl_le hs (five_lt (e:=e1) hj (by omega))
 obtain ⟨t,ht⟩:∃ t,1 * 2 ^ (s+127) = t:=⟨_,rfl⟩
 obtain ⟨b1,b2⟩:=low_bounds hj0 hs ht
 have hte:t < 2 ^ e:=by
  rw [← ht,Nat.one_mul]; exact (Nat.pow_lt_pow_iff_right (by decide)).2 (by omega)
 refine ⟨t / 5 ^ j,-(j:Int) - (s:Int) - 127,false,?_,?_,b2,fun W=>piw_f1 W _ (by omega)⟩
 ·intro W
  have hs10:Bl (10 ^ j) (s+j):=by rw [ten_eq]; exact bl_mul2 j hs (five_pos j)
  obtain ⟨u,hu⟩:∃ u,1 * 2 ^ (s+j+127) = u:=⟨_,rfl⟩
  have hue:u < 2 ^ e:=by
   rw [← hu,Nat.one_mul]; exact (Nat.pow_lt_pow_iff_right (by decide)).2 (by omega)
  have hlt:Bl u (s+j+128):=by
   have:=bl_mul2 (s+j+127) (m:=1) (k:=1) ⟨by decide,Or.inr (by decide)⟩ (by decide)
   rw [hu,show 1+(s+j+127) = s+j+128 by omega] at this; exact this
  have hd:u / 10 ^ j = t / 5 ^ j:=by
   rw [ten_eq,← hu,← ht,show s+j+127 = s+127+j by omega,Nat.pow_add 2 (s+127) j,← Nat.mul_assoc,Nat.mul_div_mul_right _ _ (Nat.pow_pos (by decide))]
  have h0:0 < u:=by rw [← hu,Nat.one_mul]; exact Nat.pow_pos (by decide)
  have:=rten_neg W j (10 ^ j) (s+j) e u hj rfl (tens_lt hj (by omega)) (by omega) hs10 (by omega) hj0 hu hue hlt (Nat.pow_pos (by decide)) h0
  rw [hd,show -((s+j:Nat):Int) - 127 = -(j:Int) - (s:Int) - 127 by omega] at this
  exact this
 ·intro W hF
  refine tof_neg W _ _ _ _ (by omega) hF (hide fun W _=>?_)
  exact lten_is W j (5 ^ j) s e t _ _ hj rfl (five_lt hj (by omega)) (by omega) hs (by omega) (by have:=five_pos j; omega) ht hte (hide fun W B a n c h=>of128_num b1 b2 _ W B a n c h)
theorem rten_mid {j s:Nat} (hj:j≤400) (hs:Bl (5 ^ j) s) (hs3:s≤128):RTen (j:Int) (5 ^ j * 2 ^ (128 - s)) ((j:Int)+(s:Int) - 128) true:=by
 intro W
 obtain ⟨e,he⟩:∃ e,e = 4000:=⟨_,rfl⟩
 have hs10:Bl (10 ^ j) (s+j):=by rw [ten_eq]; exact bl_mul2 j hs (five_pos j)
 have hN:5 ^ j * 2 ^ (128 - s) < 2 ^ e:=Nat.lt_of_lt_of_le (mid_bounds (five_pos j) hs hs3).2 (Nat.pow_le_pow_right (by decide) (by omega))
 by_cases h:s+j≤128
 ·have ht:10 ^ j * 2 ^ (128 - (s+j)) = 5 ^ j * 2 ^ (128 - s):=by
   rw [ten_eq,Nat.mul_assoc,← Nat.pow_add,show j+(128 - (s+j)) = 128 - s by omega]
  have:=rten_small W j (10 ^ j) (s+j) e _ hj rfl (tens_lt hj (by omega)) (by omega) hs10 (by omega) h ht hN
  rw [show ((s+j:Nat):Int) - 128 = (j:Int)+(s:Int) - 128 by omega] at this
  exact this
 ·have hp:10 ^ j = 5 ^ j * 2 ^ (128 - s) * 2 ^ (s+j - 128):=by
   rw [ten_eq,Nat.mul_assoc,← Nat.pow_add,show 128 - s+(s+j - 128) = j by omega]
  have ht:10 ^ j / 2 ^ (s+j - 128) = 5 ^ j * 2 ^ (128 - s):=by
   rw [hp,Nat.mul_div_cancel _ (Nat.pow_pos (by decide))]
  have:=rten_big W j (10 ^ j) (s+j) e _ _ true hj rfl (tens_lt hj (by omega)) (by omega) hs10 (by omega) (by omega) ht hp.symm (tens_lt hj (by omega)) (decide_eq_true rfl)
  rw [show ((s+j - 128:Nat):Int) = (j:Int)+(s:Int) - 128 by omega] at this
  exact this
theorem u64_lt (a:Nat):a % 18446744073709551616 < 18446744073709551616:=Nat.mod_lt _ (by decide)
theorem pten_any {j s:Nat} (hj:j≤54) (hs:Bl (5 ^ j) s) (hs3:s≤128) (W:World) (hF:Fv W) :
  Calls Tryd.prog 61 #[.int .i64 (j:Int)] W fun e W'=>e = .returned (.agg #[.int .u64 ((5 ^ j * 2 ^ (128 - s) / 18446744073709551616:Nat):Int),.int .u64 ((5 ^ j * 2 ^ (128 - s) % 18446744073709551616:Nat):Int),.int .i64 ((j:Int)+(s:Int) - 128)])∧Below W.heap.size W W':=by
 obtain ⟨f,hf⟩:∃ f,min j 27 = f:=⟨_,rfl⟩
 obtain ⟨g,hg⟩:∃ g,f+g = j:=⟨j - f,by omega⟩
 have hfg:5 ^ f * 5 ^ g = 5 ^ j:=by rw [← Nat.pow_add,hg]
 have h27:∀ i,i≤27→5 ^ i < 18446744073709551616:=fun i hi=>Nat.lt_of_le_of_lt (Nat.pow_le_pow_right (by decide) hi) (by decide)
 obtain ⟨p,hp⟩:∃ p,5 ^ j = p:=⟨_,rfl⟩
 have hp0:0 < p:=by rw [← hp]; exact five_pos j
 rw [hp] at hs hfg ⊢
 obtain ⟨h,hh⟩:∃ h,p / 18446744073709551616 = h:=⟨_,rfl⟩
 obtain ⟨l,hl⟩:∃ l,p % 18446744073709551616 = l:=⟨_,rfl⟩
 have hpl:p = h * 18446744073709551616+l:=by rw [← hh,← hl,Nat.mul_comm]; exact (Nat.div_add_mod _ _).symm
 have hl64:l < 18446744073709551616:=by rw [← hl]; exact u64_lt _
 have hmin:∀ z:Nat,z≤64→min ((z:Nat):Int).toNat 64 = z:=fun z hz=>by rw [Int.toNat_natCast]; omega
 have hcast:∀ a z:Nat,((a:Int) * 2 ^ z) = ((a * 2 ^ z:Nat):Int):=fun a z=>by rw [Int.natCast_mul,Int.natCast_pow]; rfl
 by_cases h0:h = 0
 ·have hpl2:p = l:=by
   have:=hpl
   rw [h0,Nat.zero_mul,Nat.zero_add] at this
   exact this
  have hbl:=bl_bitLen 64 l (by omega) (by omega)
  have hk:Lib.bitLen l = s:=by rw [hpl2] at hs; exact hbl.uniq hs
  have hs64:s≤64:=bl_le hs (by rw [hpl2]; exact hl64)
  obtain ⟨z,hz⟩:∃ z,s+z = 64:=⟨64 - s,by omega⟩
  obtain ⟨A,hA⟩:∃ A,l * 2 ^ z = A:=⟨_,rfl⟩
  have hA64:A < 18446744073709551616:=by
   have:=Nat.mul_lt_mul_of_pos_right hs.1 (show 0 < 2 ^ z from Nat.pow_pos (by decide))
   rw [← Nat.pow_add,hz,hpl2,hA] at this; exact this
  have hN:p * 2 ^ (128 - s) = A * 18446744073709551616:=by
   rw [hpl2,← hA,show 128 - s = z+64 by omega,Nat.pow_add,← Nat.mul_assoc]
  have:=pten_z W j f g h l s z A 0 A 0 hF hj hf hg (by omega) (by rw [hfg]; exact hh) (by rw [hfg]; exact hl) (h27 f (by omega)) (h27 g (by omega)) h0 hk hz hl64
   (by rw [hmin z (by omega),hcast,hA]; exact wpu (by omega) (by omega)) (by rw [hmin _ (by omega)]; simp) (by rw [show ((0:Nat):Int) = (((0:Nat)):Int) from rfl,bits_or_u64_nat _ _ hA64 (by decide),Nat.or_zero]) (by rw [Int.zero_mul]; rfl)
  rw [hN,Nat.mul_div_cancel _ (by decide),Nat.mul_mod_left,show (j:Int)+(s:Int) - 128 = (j:Int) - 64 - (z:Int) by omega]
  exact this
 ·have hh64:h < 18446744073709551616:=by
   have h1:p < 2 ^ 128:=Nat.lt_of_lt_of_le hs.1 (Nat.pow_le_pow_right (by decide) hs3)
   rw [← hh,Nat.div_lt_iff_lt_mul (by decide)]; exact h1
  have hbl:=bl_bitLen 64 h (by omega) (by omega)
  obtain ⟨k,hk⟩:∃ k,Lib.bitLen h = k:=⟨_,rfl⟩
  rw [hk] at hbl
  obtain ⟨hk0,hk1⟩:=bl_low hbl (by omega)
  have hsk:s = k+64:=by
   refine hs.uniq ⟨?_,Or.inr ?_⟩
   ·rw [hpl,Nat.pow_add,show (2:Nat) ^ 64 = 18446744073709551616 from rfl]
    have:=hbl.1
    omega
   ·rw [hpl,show k+64 - 1 = (k - 1)+64 by omega,Nat.pow_add,show (2:Nat) ^ 64 = 18446744073709551616 from rfl]
    omega
  obtain ⟨z,hz⟩:∃ z,k+z = 64:=⟨64 - k,by omega⟩
  obtain ⟨A,hA⟩:∃ A,h * 2 ^ z = A:=⟨_,rfl⟩
  obtain ⟨D,hD⟩:∃ D,l / 2 ^ (64 - z) = D:=⟨_,rfl⟩
  have hA64:A < 18446744073709551616:=by
   have:=Nat.mul_lt_mul_of_pos_right hbl.1 (show 0 < 2 ^ z from Nat.pow_pos (by decide))
   rw [← Nat.pow_add,hz,hA] at this; exact this
  have hDz:D < 2 ^ z:=by
   rw [← hD,Nat.div_lt_iff_lt_mul (Nat.pow_pos (by decide)),← Nat.pow_add,show z+(64 - z) = 64 by omega]; exact hl64
  have hDM:l * 2 ^ z / 18446744073709551616 = D:=by
   rw [← hD,show (18446744073709551616:Nat) = 2 ^ (64 - z) * 2 ^ z by rw [← Nat.pow_add,show 64 - z+z = 64 by omega],Nat.mul_div_mul_right _ _ (Nat.pow_pos (by decide))]
  have hor:Go.bits .or .u64 (A:Int) (D:Int) = ((A+D:Nat):Int):=by
   rw [bits_or_u64_nat _ _ hA64 (Nat.lt_of_lt_of_le hDz (show 2 ^ z≤2 ^ 64 from Nat.pow_le_pow_right (by decide) (by omega)))]
   have:=Nat.two_pow_add_eq_or_of_lt (i:=z) (b:=D) hDz h
   rw [Nat.mul_comm,hA] at this
   rw [this]
  have hN:p * 2 ^ (128 - s) = A * 18446744073709551616+l * 2 ^ z:=by
   rw [hpl,show 128 - s = z by omega,Nat.add_mul,← hA]
   congr 1
   rw [Nat.mul_right_comm]
  have hq:p * 2 ^ (128 - s) / 18446744073709551616 = A+D:=by rw [hN,Nat.mul_comm A,Nat.mul_add_div (by decide),hDM]
  have hr:p * 2 ^ (128 - s) % 18446744073709551616 = l * 2 ^ z % 18446744073709551616:=by rw [hN,Nat.mul_comm A,Nat.mul_add_mod]
  have hfd:((l:Nat):Int).fdiv (2 ^ (64 - z)) = (D:Int):=by
   have e1:(2:Int) ^ (64 - z) = ((2 ^ (64 - z):Nat):Int):=by rw [Int.natCast_pow]; rfl
   rw [e1,Int.fdiv_eq_ediv_of_nonneg _ (Int.natCast_nonneg _),← Int.natCast_ediv,hD]
  have:=pten_n W j f g h l k z A D (A+D) (l * 2 ^ z % 18446744073709551616) hF hj hf hg (by omega) (by rw [hfg]; exact hh) (by rw [hfg]; exact hl) (h27 f (by omega)) (h27 g (by omega)) h0 hk hz hh64
   (by rw [hmin z (by omega),hcast,hA]; exact wpu (by omega) (by omega)) (by rw [hmin _ (by omega)]; exact hfd) hor (by rw [hmin z (by omega),hcast,IntKind.wrap_u64]; omega)
  rw [hq,hr,show (j:Int)+(s:Int) - 128 = (j:Int) - (z:Int) by omega]
  exact this
theorem ten_pos {j:Nat} (hj:j≤400):∃ N X b,RTen (j:Int) N X b∧PTen (j:Int) N X∧N < 2 ^ 128∧PWhole (j:Int) b:=by
 obtain ⟨s,hs⟩:=bl_ex (5 ^ j)
 obtain ⟨e,he⟩:∃ e,e = 4000:=⟨_,rfl⟩
 obtain ⟨e1,he1⟩:∃ e1,e1 = 1601:=⟨_,rfl⟩
 have hs2:=bl_le hs (five_lt (e:=e1) hj (by omega))
 by_cases h55:j≤55
 ·have hlt:5 ^ j < 2 ^ 128:=Nat.lt_of_le_of_lt (Nat.pow_le_pow_right (by decide) h55) (by decide)
  have hs3:=bl_le hs hlt
  refine ⟨_,_,_,rten_mid hj hs hs3,fun W hF=>?_,(mid_bounds (five_pos j) hs hs3).2,fun W=>piw_t W _ (by omega)⟩
  by_cases h54:j≤54
  ·exact tof_mid W _ _ _ _ (by omega) hF (hide fun W hF=>pten_any h54 hs hs3 W hF)
  ·obtain rfl:j = 55:=by omega
   have hs4:s = 128:=by
    have:=bl_ge (e:=127) hs (by decide)
    omega
   subst hs4
   obtain ⟨b1,b2⟩:=high_bounds (five_pos 55) hs (Nat.le_refl _)
   have e2:5 ^ 55 * 2 ^ (128 - 128) = 5 ^ 55 / 2 ^ (128 - 128):=by rw [Nat.sub_self,Nat.pow_zero,Nat.mul_one,Nat.div_one]
   rw [e2]
   exact tof_high W _ _ _ _ (by omega) hF (hide fun W _=>hten_is W 55 (5 ^ 55) 128 e _ _ _ hj rfl (five_lt hj (by omega)) (by omega) hs (by omega) (Nat.le_refl _) rfl (hide fun W B a n c h=>of128_num b1 b2 _ W B a n c h))
 ·have hge:2 ^ 128≤5 ^ j:=Nat.le_trans (show 2 ^ 128≤5 ^ 56 by decide) (Nat.pow_le_pow_right (by decide) (by omega))
  have hs3:=bl_ge hs hge
  obtain ⟨b1,b2⟩:=high_bounds (five_pos j) hs (by omega)
  obtain ⟨t,ht⟩:∃ t,5 ^ j / 2 ^ (s - 128) = t:=⟨_,rfl⟩
  rw [ht] at b1 b2
  have hs10:Bl (10 ^ j) (s+j):=by rw [ten_eq]; exact bl_mul2 j hs (five_pos j)
  have ht10:10 ^ j / 2 ^ (s+j - 128) = t:=by
   rw [ten_eq,show s+j - 128 = (s - 128)+j by omega,Nat.pow_add,Nat.mul_div_mul_right _ _ (Nat.pow_pos (by decide)),ht]
  have hu:t * 2 ^ (s+j - 128)≤10 ^ j:=by rw [← ht10]; exact Nat.div_mul_le_self _ _
  have hne:t * 2 ^ (s+j - 128)≠10 ^ j:=by
   intro h
   rw [ten_eq,show s+j - 128 = (s - 128)+j by omega,Nat.pow_add,← Nat.mul_assoc] at h
   have h2:=Nat.eq_of_mul_eq_mul_right (Nat.pow_pos (by decide)) h
   have h3:=five_odd j
   rw [← h2,show s - 128 = (s - 129)+1 by omega,Nat.pow_succ,← Nat.mul_assoc,Nat.mul_mod_left] at h3
   cases h3
  refine ⟨t,(j:Int)+(s:Int) - 128,false,fun W=>?_,fun W hF=>?_,b2,fun W=>piw_f2 W _ (by omega)⟩
  ·have:=rten_big W j (10 ^ j) (s+j) e t _ false hj rfl (tens_lt hj (by omega)) (by omega) hs10 (by omega) (by omega) ht10 rfl (Nat.lt_of_le_of_lt hu (tens_lt hj (by omega))) (decide_eq_false hne)
   rw [show ((s+j - 128:Nat):Int) = (j:Int)+(s:Int) - 128 by omega] at this
   exact this
  ·exact tof_high W _ _ _ _ (by omega) hF (hide fun W _=>hten_is W j (5 ^ j) s e t _ _ hj rfl (five_lt hj (by omega)) (by omega) hs (by omega) (by omega) ht (hide fun W B a n c h=>of128_num b1 b2 _ W B a n c h))
theorem ten_both (k:Int) (hk:-400≤k∧k≤400):∃ N X b,RTen k N X b∧PTen k N X∧N < 2 ^ 128∧PWhole k b:=by
 by_cases h:k < 0
 ·obtain ⟨j,rfl⟩:∃ j:Nat,k = -(j:Int):=⟨(-k).toNat,by omega⟩
  exact ten_neg (by omega) (by omega)
 ·obtain ⟨j,rfl⟩:∃ j:Nat,k = (j:Int):=⟨k.toNat,by omega⟩
  exact ten_pos (by omega)
theorem rb_num {N:Nat} (h:N < 2 ^ 128) (W:World) (a:Option Addr) (n c:Nat) (hN:Num W a n N) :
  Calls Tryd.prog 30 #[.agg #[.slice a n c]] W fun en W'=>en = .returned (.tuple #[.int .u64 ((N / 18446744073709551616:Nat):Int),.int .u64 ((N % 18446744073709551616:Nat):Int)])∧Below W.heap.size W W':=by
 have e1:=Nat.div_add_mod N 18446744073709551616
 have h1:N / 18446744073709551616 < 18446744073709551616:=by rw [Nat.div_lt_iff_lt_mul (by decide)]; exact h
 refine rb_is W a n c N _ (N / 18446744073709551616 * 18446744073709551616) _ hN rfl rfl (Nat.lt_of_le_of_lt (Nat.div_mul_le_self _ _) h) (by omega) h1 (u64_lt N)
theorem times_nums {N m:Nat} (hN:N < 2 ^ 128) (hm:m < 18446744073709551616) :
  m * (N / 18446744073709551616) / 18446744073709551616+(m * (N / 18446744073709551616) % 18446744073709551616+m * (N % 18446744073709551616) / 18446744073709551616) / 18446744073709551616 = N * m / 18446744073709551616 / 18446744073709551616 ∧
  (m * (N / 18446744073709551616) % 18446744073709551616+m * (N % 18446744073709551616) / 18446744073709551616) % 18446744073709551616 = N * m / 18446744073709551616 % 18446744073709551616 ∧
  m * (N % 18446744073709551616) % 18446744073709551616 = N * m % 18446744073709551616∧N * m / 18446744073709551616 < 2 ^ 128∧N * m < 2 ^ 192:=by
 have e1:=Nat.div_add_mod N 18446744073709551616
 have e2:N * m = m * (N / 18446744073709551616) * 18446744073709551616+m * (N % 18446744073709551616):=by
  rw [Nat.mul_comm N m,← congrArg (m * ·) e1,Nat.mul_add,← Nat.mul_assoc,Nat.mul_right_comm]
 have h3:N * m < 2 ^ 192:=by
  rcases Nat.eq_zero_or_pos m with h|h
  ·subst h; rw [Nat.mul_zero]; decide
  ·have:=Nat.mul_lt_mul_of_lt_of_le hN (Nat.le_of_lt hm) (by omega)
   exact this
 have h4:N * m / 18446744073709551616 < 2 ^ 128:=by rw [Nat.div_lt_iff_lt_mul (by decide)]; exact h3
 generalize m * (N / 18446744073709551616) = a at *
 generalize m * (N % 18446744073709551616) = b at *
 refine ⟨by rw [e2]; omega,by rw [e2]; omega,by rw [e2]; omega,h4,h3⟩
theorem powerTens_any (k:Int) (m:Nat) (w:World) (hT:Fv w) (hm:m < 18446744073709551616) :
  Calls Tryd.prog 3 #[.int .i64 k,.int .u64 (m:Int)] w fun e w'=>e = .returned (.bool true)∧Below w.heap.size w w':=by
 by_cases hk:-400≤k∧k≤400
 ·obtain ⟨N,X,b,hR,hP,hN,hW⟩:=ten_both k hk
  obtain ⟨t1,t2,t3,t4,t5⟩:=times_nums hN hm
  have hTen:∀ W:World,Fv W→Calls Tryd.prog 11 #[.int .i64 k] W fun e W'=>e = .returned (.tuple #[.int .u64 ((N / 18446744073709551616:Nat):Int),.int .u64 ((N % 18446744073709551616:Nat):Int),.int .i64 X,.int .i64 0])∧Below W.heap.size W W':=fun W hF=>pTen_in W k X _ _ hk hF (hide hP)
  have h1:N / 18446744073709551616 < 18446744073709551616:=by rw [Nat.div_lt_iff_lt_mul (by decide)]; exact hN
  have hq1:N * m / 18446744073709551616 / 18446744073709551616 < 18446744073709551616:=by rw [Nat.div_lt_iff_lt_mul (by decide)]; exact t4
  refine tens_walk w k m ((N / 18446744073709551616:Nat):Int) ((N % 18446744073709551616:Nat):Int) X 0 0 ((N * m / 18446744073709551616 / 18446744073709551616:Nat):Int) ((N * m / 18446744073709551616 % 18446744073709551616:Nat):Int) 0 b (!decide (N * m / 18446744073709551616 * 18446744073709551616 = N * m)) hT (hide fun W=>pWhole_in W k b hk (hide hW)) (hide fun W=>rWhole_in W k X b N hk (hide hR)) (hide fun W hF=>?_) (hide fun W=>?_) (hide hTen) (hide fun W=>rTen_in W k X b N _ _ hk (hide hR) (hide fun W a n c h=>rb_num hN W a n c h))
  ·have:=pTimes_in W m k X (N / 18446744073709551616) (N % 18446744073709551616) _ _ _ _ (N * m / 18446744073709551616 / 18446744073709551616) (!decide (N * m / 18446744073709551616 * 18446744073709551616 = N * m)) hF (hide hTen) hm h1 (u64_lt _) rfl rfl rfl rfl (by
     rw [← t1] at hq1 ⊢
     rw [wpu (by omega) (by omega)]; omega) (by
     rw [t3,Bool.eq_iff_iff,bne_iff_ne,Bool.not_eq_true',decide_eq_false_iff_not]
     have:=Nat.div_add_mod (N * m) 18446744073709551616
     constructor <;> omega)
   rw [t2] at this
   exact this
  ·exact rTimes_in W m k X b N (N * m) _ _ _ _ _ hk (hide hR) hm rfl t5 rfl rfl (Nat.lt_of_le_of_lt (Nat.div_mul_le_self _ _) t5) rfl (hide fun W a n c h=>rb_num t4 W a n c h)
 ·have hk':k < -400∨400 < k:=by omega
  exact tens_walk w k m 0 0 0 130 130 0 0 130 false false hT (hide fun W=>pWhole_far W k hk') (hide fun W=>rWhole_far W k hk') (hide fun W hF=>pTimes_far W m k hF (hide fun W _=>pTen_far W k hk')) (hide fun W=>rTimes_far W m k hk') (hide fun W _=>pTen_far W k hk') (hide fun W=>rTen_far W k hk')
end Go.Proofs.YteblliofeaahmaaDoor
