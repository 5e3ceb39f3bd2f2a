/- Of what DecShiftsRow stands on: DcNamW DcTxB DcTxtW. -/
import Derived.Test.YtdbmdhfjmdlihaaDoorPal
import Derived.Test.YtdbmdhfjmdlihaaDoorPbf
import Derived.Test.YtdbmdhfjmdlihaaDoorPak
import Derived.Test.YtdbmdhfjmdlihaaDoorPbg
import Derived.Test.YtdbmdhfjmdlihaaDoorPaw
namespace Go.Proofs.YtdbmdhfjmdlihaaDoor
open Go.RowKit
set_option maxHeartbeats 2000000
set_option maxRecDepth 20000
theorem plI_over (w:World) (g:Bool) (s:ByteArray) (z x:Int) (hz0:-1073741824≤z) (hz:z≤1073741824) (hx:1073741824 < z+x) :
  Calls Tryd.prog 21 #[.bool g,.string s,.int .i64 z,.int .i64 x] w fun en w'=>en = .returned (.tuple #[.agg #[.bool false,.string ⟨#[]⟩,.int .i64 0],.int .i64 4])∧Below w.heap.size w w':=by
 refine calls_sym Tryd.func21 rfl (by kernel_rfl) fun T hK=>?_
 replace hK:Kn T _ [(0,.bool g),(1,.string s),(2,.int .i64 z),(3,.int .i64 x)]:=hK
 have hS:=Fb.begin w
 have hG:GsAt [] w:=trivial
 refine wp_symQ hS hG hK (fun p1=>[.n 8 #[.bool false,.string ⟨#[]⟩,.int .i64 0] 23,.v 9 (.int .i64 0)]) (fun p1=>[(0,.bool g),(1,.string s),(2,.int .i64 z),(3,.int .i64 x),(8,.pointer (some ⟨(p1 0).N,0,none⟩)),(9,.int .i64 0)]) (by kernel_rfl) (fun _ _=>by kernel_rfl) (fun _=>by kernel_rfl) (fun _=>by kernel_rfl) (fun p1=>?_) (fun p1 W1 T hF hK=>?_)
 ·refine ok_n (fun _=>by kernel_rfl) ?_
  refine ok_v (by kernel_rfl) ?_
  exact ok_nil
 replace hS:=SymF.fb hS hF [1000] [⟨(p1 0).N,#[.bool false,.string ⟨#[]⟩,.int .i64 0],23,true⟩] (by kernel_rfl) (by kernel_rfl)
 replace hG:=hF.gx
 clear hF
 have z1:=hS.fr.size
 refine wp_seq ?_
 refine wp_symQ hS hG hK (fun p2=>[.v 10 (.int .i64 x),.v 11 (.int .i64 z),.v 12 (.int .i64 (1073741824 - z)),.v 13 (.bool true),.v 14 (.bool true),.k (some 15),.k (some 16),.k (some 17),.k (some 18),.v 19 (.bool true)]) (fun p2=>[(0,.bool g),(1,.string s),(2,.int .i64 z),(3,.int .i64 x),(8,.pointer (some ⟨(p1 0).N,0,none⟩)),(9,.int .i64 0),(19,.bool true)]) (by kernel_rfl) (fun _ _=>by kernel_rfl) (fun _=>by kernel_rfl) (fun _=>by kernel_rfl) (fun p2=>?_) (fun p2 W2 T hF hK=>?_)
 ·iterate 2 refine ok_v (by kernel_rfl) ?_
  refine ok_vi (wr64 (x:=1073741824 - z) (by omega) (by omega)) (by kernel_rfl) ?_
  refine ok_vb (decide_eq_true (show x > 1073741824 - z by omega)) (by kernel_rfl) ?_
  refine ok_v (by kernel_rfl) ?_
  iterate 4 refine ok_K (by kernel_rfl) ?_
  refine ok_v (by kernel_rfl) ?_
  exact ok_nil
 replace hS:=SymF.fb hS hF [0] [⟨(p1 0).N,#[.bool false,.string ⟨#[]⟩,.int .i64 0],23,true⟩] (by kernel_rfl) (by kernel_rfl)
 replace hG:=hF.gx
 clear hF
 have z2:=hS.fr.size
 refine wp_cond_true (hK.ev 19 (by kernel_rfl) _ (by kernel_rfl)) ?_
 refine wp_symQ hS hG hK (fun p3=>[.v 20 (.agg #[.bool false,.string ⟨#[]⟩,.int .i64 0]),.p 0 0 [.bool false,.string ⟨#[]⟩,.int .i64 0],.v 9 (.int .i64 4)]) (fun p3=>[(0,.bool g),(1,.string s),(2,.int .i64 z),(3,.int .i64 x),(8,.pointer (some ⟨(p1 0).N,0,none⟩)),(9,.int .i64 4),(19,.bool true)]) (by kernel_rfl) (fun _ _=>by kernel_rfl) (fun _=>by kernel_rfl) (fun _=>by kernel_rfl) (fun p3=>?_) (fun p3 W3 T hF hK=>?_)
 ·refine ok_v (by kernel_rfl) ?_
  refine ok_P (by kernel_rfl) (by kernel_rfl) (by kernel_rfl) ?_
  refine ok_v (by kernel_rfl) ?_
  exact ok_nil
 replace hS:=SymF.fb hS hF [0] [⟨(p1 0).N,#[.bool false,.string ⟨#[]⟩,.int .i64 0],23,true⟩] (by kernel_rfl) (by kernel_rfl)
 replace hG:=hF.gx
 clear hF
 have z3:=hS.fr.size
 refine wp_ret ?_
 refine then_r ?_
 exact sym_end hS hK (.tuple #[.agg #[.bool false,.string ⟨#[]⟩,.int .i64 0],.int .i64 4]) [(0,0,3)] [.bool false,.string ⟨#[]⟩,.int .i64 0] (by kernel_rfl) (by kernel_rfl) ⟨rfl,hS.fr⟩
theorem plI_under (w:World) (g:Bool) (s:ByteArray) (z x:Int) (hz0:-1073741824≤z) (hz:z≤1073741824) (hx:z+x < -1073741824) :
  Calls Tryd.prog 21 #[.bool g,.string s,.int .i64 z,.int .i64 x] w fun en w'=>en = .returned (.tuple #[.agg #[.bool false,.string ⟨#[]⟩,.int .i64 0],.int .i64 4])∧Below w.heap.size w w':=by
 refine calls_sym Tryd.func21 rfl (by kernel_rfl) fun T hK=>?_
 replace hK:Kn T _ [(0,.bool g),(1,.string s),(2,.int .i64 z),(3,.int .i64 x)]:=hK
 have hS:=Fb.begin w
 have hG:GsAt [] w:=trivial
 refine wp_symQ hS hG hK (fun p1=>[.n 8 #[.bool false,.string ⟨#[]⟩,.int .i64 0] 23,.v 9 (.int .i64 0)]) (fun p1=>[(0,.bool g),(1,.string s),(2,.int .i64 z),(3,.int .i64 x),(8,.pointer (some ⟨(p1 0).N,0,none⟩)),(9,.int .i64 0)]) (by kernel_rfl) (fun _ _=>by kernel_rfl) (fun _=>by kernel_rfl) (fun _=>by kernel_rfl) (fun p1=>?_) (fun p1 W1 T hF hK=>?_)
 ·refine ok_n (fun _=>by kernel_rfl) ?_
  refine ok_v (by kernel_rfl) ?_
  exact ok_nil
 replace hS:=SymF.fb hS hF [1000] [⟨(p1 0).N,#[.bool false,.string ⟨#[]⟩,.int .i64 0],23,true⟩] (by kernel_rfl) (by kernel_rfl)
 replace hG:=hF.gx
 clear hF
 have z1:=hS.fr.size
 refine wp_seq ?_
 refine wp_symQ hS hG hK (fun p2=>[.v 10 (.int .i64 x),.v 11 (.int .i64 z),.v 12 (.int .i64 (1073741824 - z)),.v 13 (.bool false),.v 14 (.bool false),.v 15 (.int .i64 x),.v 16 (.int .i64 z),.v 17 (.int .i64 (-1073741824 - z)),.v 18 (.bool true),.v 19 (.bool true)]) (fun p2=>[(0,.bool g),(1,.string s),(2,.int .i64 z),(3,.int .i64 x),(8,.pointer (some ⟨(p1 0).N,0,none⟩)),(9,.int .i64 0),(19,.bool true)]) (by kernel_rfl) (fun _ _=>by kernel_rfl) (fun _=>by kernel_rfl) (fun _=>by kernel_rfl) (fun p2=>?_) (fun p2 W2 T hF hK=>?_)
 ·iterate 2 refine ok_v (by kernel_rfl) ?_
  refine ok_vi (wr64 (x:=1073741824 - z) (by omega) (by omega)) (by kernel_rfl) ?_
  refine ok_vb (decide_eq_false (show ¬ x > 1073741824 - z by omega)) (by kernel_rfl) ?_
  iterate 3 refine ok_v (by kernel_rfl) ?_
  refine ok_vi (wr64 (x:=-1073741824 - z) (by omega) (by omega)) (by kernel_rfl) ?_
  refine ok_vb (decide_eq_true (show x < -1073741824 - z by omega)) (by kernel_rfl) ?_
  refine ok_v (by kernel_rfl) ?_
  exact ok_nil
 replace hS:=SymF.fb hS hF [0] [⟨(p1 0).N,#[.bool false,.string ⟨#[]⟩,.int .i64 0],23,true⟩] (by kernel_rfl) (by kernel_rfl)
 replace hG:=hF.gx
 clear hF
 have z2:=hS.fr.size
 refine wp_cond_true (hK.ev 19 (by kernel_rfl) _ (by kernel_rfl)) ?_
 refine wp_symQ hS hG hK (fun p3=>[.v 20 (.agg #[.bool false,.string ⟨#[]⟩,.int .i64 0]),.p 0 0 [.bool false,.string ⟨#[]⟩,.int .i64 0],.v 9 (.int .i64 4)]) (fun p3=>[(0,.bool g),(1,.string s),(2,.int .i64 z),(3,.int .i64 x),(8,.pointer (some ⟨(p1 0).N,0,none⟩)),(9,.int .i64 4),(19,.bool true)]) (by kernel_rfl) (fun _ _=>by kernel_rfl) (fun _=>by kernel_rfl) (fun _=>by kernel_rfl) (fun p3=>?_) (fun p3 W3 T hF hK=>?_)
 ·refine ok_v (by kernel_rfl) ?_
  refine ok_P (by kernel_rfl) (by kernel_rfl) (by kernel_rfl) ?_
  refine ok_v (by kernel_rfl) ?_
  exact ok_nil
 replace hS:=SymF.fb hS hF [0] [⟨(p1 0).N,#[.bool false,.string ⟨#[]⟩,.int .i64 0],23,true⟩] (by kernel_rfl) (by kernel_rfl)
 replace hG:=hF.gx
 clear hF
 have z3:=hS.fr.size
 refine wp_ret ?_
 refine then_r ?_
 exact sym_end hS hK (.tuple #[.agg #[.bool false,.string ⟨#[]⟩,.int .i64 0],.int .i64 4]) [(0,0,3)] [.bool false,.string ⟨#[]⟩,.int .i64 0] (by kernel_rfl) (by kernel_rfl) ⟨rfl,hS.fr⟩
theorem plI_ok (w:World) (g:Bool) (s:ByteArray) (z x:Int) (y:Int) (hz0:-1073741824≤z) (hz:z≤1073741824) (hs:s.size≤281474976710656) (hy:z+x = y) (h1:-1073741824≤y) (h2:y≤1073741824) :
  Calls Tryd.prog 21 #[.bool g,.string s,.int .i64 z,.int .i64 x] w fun en w'=>en = .returned (.tuple #[.agg #[.bool g,.string s,.int .i64 y],.int .i64 0])∧Below w.heap.size w w':=by
 refine calls_sym Tryd.func21 rfl (by kernel_rfl) fun T hK=>?_
 replace hK:Kn T _ [(0,.bool g),(1,.string s),(2,.int .i64 z),(3,.int .i64 x)]:=hK
 have hS:=Fb.begin w
 have hG:GsAt [] w:=trivial
 refine wp_symQ hS hG hK (fun p1=>[.n 8 #[.bool false,.string ⟨#[]⟩,.int .i64 0] 23,.v 9 (.int .i64 0)]) (fun p1=>[(0,.bool g),(1,.string s),(2,.int .i64 z),(3,.int .i64 x),(8,.pointer (some ⟨(p1 0).N,0,none⟩)),(9,.int .i64 0)]) (by kernel_rfl) (fun _ _=>by kernel_rfl) (fun _=>by kernel_rfl) (fun _=>by kernel_rfl) (fun p1=>?_) (fun p1 W1 T hF hK=>?_)
 ·refine ok_n (fun _=>by kernel_rfl) ?_
  refine ok_v (by kernel_rfl) ?_
  exact ok_nil
 replace hS:=SymF.fb hS hF [1000] [⟨(p1 0).N,#[.bool false,.string ⟨#[]⟩,.int .i64 0],23,true⟩] (by kernel_rfl) (by kernel_rfl)
 replace hG:=hF.gx
 clear hF
 have z1:=hS.fr.size
 refine wp_seq ?_
 refine wp_symQ hS hG hK (fun p2=>[.v 10 (.int .i64 x),.v 11 (.int .i64 z),.v 12 (.int .i64 (1073741824 - z)),.v 13 (.bool false),.v 14 (.bool false),.v 15 (.int .i64 x),.v 16 (.int .i64 z),.v 17 (.int .i64 (-1073741824 - z)),.v 18 (.bool false),.v 19 (.bool false)]) (fun p2=>[(0,.bool g),(1,.string s),(2,.int .i64 z),(3,.int .i64 x),(8,.pointer (some ⟨(p1 0).N,0,none⟩)),(9,.int .i64 0),(19,.bool false)]) (by kernel_rfl) (fun _ _=>by kernel_rfl) (fun _=>by kernel_rfl) (fun _=>by kernel_rfl) (fun p2=>?_) (fun p2 W2 T hF hK=>?_)
 ·iterate 2 refine ok_v (by kernel_rfl) ?_
  refine ok_vi (wr64 (x:=1073741824 - z) (by omega) (by omega)) (by kernel_rfl) ?_
  refine ok_vb (decide_eq_false (show ¬ x > 1073741824 - z by omega)) (by kernel_rfl) ?_
  iterate 3 refine ok_v (by kernel_rfl) ?_
  refine ok_vi (wr64 (x:=-1073741824 - z) (by omega) (by omega)) (by kernel_rfl) ?_
  refine ok_vb (decide_eq_false (show ¬ x < -1073741824 - z by omega)) (by kernel_rfl) ?_
  refine ok_v (by kernel_rfl) ?_
  exact ok_nil
 replace hS:=SymF.fb hS hF [0] [⟨(p1 0).N,#[.bool false,.string ⟨#[]⟩,.int .i64 0],23,true⟩] (by kernel_rfl) (by kernel_rfl)
 replace hG:=hF.gx
 clear hF
 have z2:=hS.fr.size
 refine wp_cond_false (hK.ev 19 (by kernel_rfl) _ (by kernel_rfl)) ?_
 refine wp_skip ?_
 refine then_n ?_
 refine wp_symQ hS hG hK (fun p3=>[.v 21 (.bool g),.v 22 (.string s),.v 23 (.int .i64 z),.v 24 (.int .i64 x),.v 25 (.int .i64 y),.v 26 (.agg #[.bool g,.string s,.int .i64 y]),.c (some 27) (cV (.agg #[.bool g,.string s,.int .i64 y])),.p 0 0 [.bool g,.string s,.int .i64 y],.v 9 (.int .i64 0)]) (fun p3=>[(8,.pointer (some ⟨(p1 0).N,0,none⟩)),(9,.int .i64 0),(19,.bool false)]) (by kernel_rfl) (fun _ _=>by kernel_rfl) (fun _=>by kernel_rfl) (fun _=>by kernel_rfl) (fun p3=>?_) (fun p3 W3 T hF hK=>?_)
 ·iterate 4 refine ok_v (by kernel_rfl) ?_
  refine ok_vi ((wr64 (x:=z+x) (by omega) (by omega)).trans hy) (by kernel_rfl) ?_
  refine ok_v (by kernel_rfl) ?_
  refine ok_c (fun W cx=>as_v (copied_any _ g s y hs)) (by kernel_rfl) ?_
  refine ok_P (by kernel_rfl) (by kernel_rfl) (by kernel_rfl) ?_
  refine ok_v (by kernel_rfl) ?_
  exact ok_nil
 replace hS:=SymF.fb hS hF [0] [⟨(p1 0).N,#[.bool g,.string s,.int .i64 y],23,true⟩] (by kernel_rfl) (by kernel_rfl)
 replace hG:=hF.gx
 clear hF
 have z3:=hS.fr.size
 refine wp_ret ?_
 exact sym_end hS hK (.tuple #[.agg #[.bool g,.string s,.int .i64 y],.int .i64 0]) [(0,0,3)] [.bool g,.string s,.int .i64 y] (by kernel_rfl) (by kernel_rfl) ⟨rfl,hS.fr⟩
theorem dsh_e (w:World) (g:Bool) (s:ByteArray) (x:Int) (n e1:Int) (he:e1≠0) (HC:Hid (∀ W:World,Calls Tryd.prog 11 #[.agg #[.bool g,.string s,.int .i64 x]] W fun e W'=>e = .returned (.int .i64 e1)∧Below W.heap.size W W')) :
  Calls Tryd.prog 9 #[.agg #[.bool g,.string s,.int .i64 x],.int .i64 n] w fun en w'=>en = .returned (.tuple #[.agg #[.bool false,.string ⟨#[]⟩,.int .i64 0],.int .i64 e1])∧Below w.heap.size w w':=by
 refine calls_sym Tryd.func9 rfl (by kernel_rfl) fun T hK=>?_
 replace hK:Kn T _ [(0,.agg #[.bool g,.string s,.int .i64 x]),(1,.int .i64 n)]:=hK
 have hS:=Fb.begin w
 have hG:GsAt [] w:=trivial
 refine wp_symQ hS hG hK (fun p1=>[.n 2 #[.bool g,.string s,.int .i64 x] 23,.n 4 #[.bool false,.string ⟨#[]⟩,.int .i64 0] 23,.v 5 (.int .i64 0)]) (fun p1=>[(1,.int .i64 n),(2,.pointer (some ⟨(p1 0).N,0,none⟩)),(4,.pointer (some ⟨(p1 1).N,0,none⟩)),(5,.int .i64 0)]) (by kernel_rfl) (fun _ _=>by kernel_rfl) (fun _=>by kernel_rfl) (fun _=>by kernel_rfl) (fun p1=>?_) (fun p1 W1 T hF hK=>?_)
 ·iterate 2 refine ok_n (fun _=>by kernel_rfl) ?_
  refine ok_v (by kernel_rfl) ?_
  exact ok_nil
 replace hS:=SymF.fb hS hF [1000,1001] [⟨(p1 0).N,#[.bool g,.string s,.int .i64 x],23,true⟩,⟨(p1 1).N,#[.bool false,.string ⟨#[]⟩,.int .i64 0],23,true⟩] (by kernel_rfl) (by kernel_rfl)
 replace hG:=hF.gx
 clear hF
 have z1:=hS.fr.size
 refine wp_seq ?_
 refine wp_symQ hS hG hK (fun p2=>[.l 7 (.agg #[.bool g,.string s,.int .i64 x]) 0 0,.c (some 8) (cV (.int .i64 e1)),.v 6 (.int .i64 e1)]) (fun p2=>[(1,.int .i64 n),(2,.pointer (some ⟨(p1 0).N,0,none⟩)),(4,.pointer (some ⟨(p1 1).N,0,none⟩)),(5,.int .i64 0),(6,.int .i64 e1)]) (by kernel_rfl) (fun _ _=>by kernel_rfl) (fun _=>by kernel_rfl) (fun _=>by kernel_rfl) (fun p2=>?_) (fun p2 W2 T hF hK=>?_)
 ·refine ok_L (by kernel_rfl) (by kernel_rfl) (by kernel_rfl) ?_
  refine ok_c (fun W cx=>as_v (unhide HC _)) (by kernel_rfl) ?_
  refine ok_v (by kernel_rfl) ?_
  exact ok_nil
 replace hS:=SymF.fb hS hF [0,1] [⟨(p1 0).N,#[.bool g,.string s,.int .i64 x],23,true⟩,⟨(p1 1).N,#[.bool false,.string ⟨#[]⟩,.int .i64 0],23,true⟩] (by kernel_rfl) (by kernel_rfl)
 replace hG:=hF.gx
 clear hF
 have z2:=hS.fr.size
 refine wp_symQ hS hG hK (fun p3=>[.v 9 (.int .i64 e1),.v 10 (.bool true)]) (fun p3=>[(1,.int .i64 n),(2,.pointer (some ⟨(p1 0).N,0,none⟩)),(4,.pointer (some ⟨(p1 1).N,0,none⟩)),(5,.int .i64 0),(6,.int .i64 e1),(10,.bool true)]) (by kernel_rfl) (fun _ _=>by kernel_rfl) (fun _=>by kernel_rfl) (fun _=>by kernel_rfl) (fun p3=>?_) (fun p3 W3 T hF hK=>?_)
 ·refine ok_v (by kernel_rfl) ?_
  refine ok_vb (bne_iff_ne.2 he) (by kernel_rfl) ?_
  exact ok_nil
 replace hS:=SymF.fb hS hF [0,1] [⟨(p1 0).N,#[.bool g,.string s,.int .i64 x],23,true⟩,⟨(p1 1).N,#[.bool false,.string ⟨#[]⟩,.int .i64 0],23,true⟩] (by kernel_rfl) (by kernel_rfl)
 replace hG:=hF.gx
 clear hF
 have z3:=hS.fr.size
 refine wp_cond_true (hK.ev 10 (by kernel_rfl) _ (by kernel_rfl)) ?_
 refine wp_symQ hS hG hK (fun p4=>[.v 11 (.agg #[.bool false,.string ⟨#[]⟩,.int .i64 0]),.v 12 (.int .i64 e1),.p 1 0 [.bool false,.string ⟨#[]⟩,.int .i64 0],.v 5 (.int .i64 e1)]) (fun p4=>[(1,.int .i64 n),(2,.pointer (some ⟨(p1 0).N,0,none⟩)),(4,.pointer (some ⟨(p1 1).N,0,none⟩)),(5,.int .i64 e1),(10,.bool true)]) (by kernel_rfl) (fun _ _=>by kernel_rfl) (fun _=>by kernel_rfl) (fun _=>by kernel_rfl) (fun p4=>?_) (fun p4 W4 T hF hK=>?_)
 ·iterate 2 refine ok_v (by kernel_rfl) ?_
  refine ok_P (by kernel_rfl) (by kernel_rfl) (by kernel_rfl) ?_
  refine ok_v (by kernel_rfl) ?_
  exact ok_nil
 replace hS:=SymF.fb hS hF [0,1] [⟨(p1 0).N,#[.bool g,.string s,.int .i64 x],23,true⟩,⟨(p1 1).N,#[.bool false,.string ⟨#[]⟩,.int .i64 0],23,true⟩] (by kernel_rfl) (by kernel_rfl)
 replace hG:=hF.gx
 clear hF
 have z4:=hS.fr.size
 refine wp_ret ?_
 refine then_r ?_
 exact sym_end hS hK (.tuple #[.agg #[.bool false,.string ⟨#[]⟩,.int .i64 0],.int .i64 e1]) [(1,0,3)] [.bool false,.string ⟨#[]⟩,.int .i64 0] (by kernel_rfl) (by kernel_rfl) ⟨rfl,hS.fr⟩
theorem dsh_z (w:World) (g:Bool) (s:ByteArray) (x:Int) (n:Int) (hz:s.size = 0) (HC:Hid (∀ W:World,Calls Tryd.prog 11 #[.agg #[.bool g,.string s,.int .i64 x]] W fun e W'=>e = .returned (.int .i64 0)∧Below W.heap.size W W')) :
  Calls Tryd.prog 9 #[.agg #[.bool g,.string s,.int .i64 x],.int .i64 n] w fun en w'=>en = .returned (.tuple #[.agg #[.bool g,.string s,.int .i64 x],.int .i64 0])∧Below w.heap.size w w':=by
 refine calls_sym Tryd.func9 rfl (by kernel_rfl) fun T hK=>?_
 replace hK:Kn T _ [(0,.agg #[.bool g,.string s,.int .i64 x]),(1,.int .i64 n)]:=hK
 have hS:=Fb.begin w
 have hG:GsAt [] w:=trivial
 refine wp_symQ hS hG hK (fun p1=>[.n 2 #[.bool g,.string s,.int .i64 x] 23,.n 4 #[.bool false,.string ⟨#[]⟩,.int .i64 0] 23,.v 5 (.int .i64 0)]) (fun p1=>[(1,.int .i64 n),(2,.pointer (some ⟨(p1 0).N,0,none⟩)),(4,.pointer (some ⟨(p1 1).N,0,none⟩)),(5,.int .i64 0)]) (by kernel_rfl) (fun _ _=>by kernel_rfl) (fun _=>by kernel_rfl) (fun _=>by kernel_rfl) (fun p1=>?_) (fun p1 W1 T hF hK=>?_)
 ·iterate 2 refine ok_n (fun _=>by kernel_rfl) ?_
  refine ok_v (by kernel_rfl) ?_
  exact ok_nil
 replace hS:=SymF.fb hS hF [1000,1001] [⟨(p1 0).N,#[.bool g,.string s,.int .i64 x],23,true⟩,⟨(p1 1).N,#[.bool false,.string ⟨#[]⟩,.int .i64 0],23,true⟩] (by kernel_rfl) (by kernel_rfl)
 replace hG:=hF.gx
 clear hF
 have z1:=hS.fr.size
 refine wp_seq ?_
 refine wp_symQ hS hG hK (fun p2=>[.l 7 (.agg #[.bool g,.string s,.int .i64 x]) 0 0,.c (some 8) (cV (.int .i64 0)),.v 6 (.int .i64 0)]) (fun p2=>[(1,.int .i64 n),(2,.pointer (some ⟨(p1 0).N,0,none⟩)),(4,.pointer (some ⟨(p1 1).N,0,none⟩)),(5,.int .i64 0),(6,.int .i64 0)]) (by kernel_rfl) (fun _ _=>by kernel_rfl) (fun _=>by kernel_rfl) (fun _=>by kernel_rfl) (fun p2=>?_) (fun p2 W2 T hF hK=>?_)
 ·refine ok_L (by kernel_rfl) (by kernel_rfl) (by kernel_rfl) ?_
  refine ok_c (fun W cx=>as_v (unhide HC _)) (by kernel_rfl) ?_
  refine ok_v (by kernel_rfl) ?_
  exact ok_nil
 replace hS:=SymF.fb hS hF [0,1] [⟨(p1 0).N,#[.bool g,.string s,.int .i64 x],23,true⟩,⟨(p1 1).N,#[.bool false,.string ⟨#[]⟩,.int .i64 0],23,true⟩] (by kernel_rfl) (by kernel_rfl)
 replace hG:=hF.gx
 clear hF
 have z2:=hS.fr.size
 refine wp_symQ hS hG hK (fun p3=>[.v 9 (.int .i64 0),.v 10 (.bool false)]) (fun p3=>[(1,.int .i64 n),(2,.pointer (some ⟨(p1 0).N,0,none⟩)),(4,.pointer (some ⟨(p1 1).N,0,none⟩)),(5,.int .i64 0),(6,.int .i64 0),(10,.bool false)]) (by kernel_rfl) (fun _ _=>by kernel_rfl) (fun _=>by kernel_rfl) (fun _=>by kernel_rfl) (fun p3=>?_) (fun p3 W3 T hF hK=>?_)
 ·iterate 2 refine ok_v (by kernel_rfl) ?_
  exact ok_nil
 replace hS:=SymF.fb hS hF [0,1] [⟨(p1 0).N,#[.bool g,.string s,.int .i64 x],23,true⟩,⟨(p1 1).N,#[.bool false,.string ⟨#[]⟩,.int .i64 0],23,true⟩] (by kernel_rfl) (by kernel_rfl)
 replace hG:=hF.gx
 clear hF
 have z3:=hS.fr.size
 refine wp_cond_false (hK.ev 10 (by kernel_rfl) _ (by kernel_rfl)) ?_
 refine wp_skip ?_
 refine then_n ?_
 refine wp_seq ?_
 refine wp_symQ hS hG hK (fun p4=>[.l 13 (.agg #[.bool g,.string s,.int .i64 x]) 0 0,.c (some 14) (cV (.bool true))]) (fun p4=>[(1,.int .i64 n),(2,.pointer (some ⟨(p1 0).N,0,none⟩)),(4,.pointer (some ⟨(p1 1).N,0,none⟩)),(5,.int .i64 0),(6,.int .i64 0),(10,.bool false),(14,.bool true)]) (by kernel_rfl) (fun _ _=>by kernel_rfl) (fun _=>by kernel_rfl) (fun _=>by kernel_rfl) (fun p4=>?_) (fun p4 W4 T hF hK=>?_)
 ·refine ok_L (by kernel_rfl) (by kernel_rfl) (by kernel_rfl) ?_
  refine ok_c (fun W cx=>as_v (isN_t _ g s x hz)) (by kernel_rfl) ?_
  exact ok_nil
 replace hS:=SymF.fb hS hF [0,1] [⟨(p1 0).N,#[.bool g,.string s,.int .i64 x],23,true⟩,⟨(p1 1).N,#[.bool false,.string ⟨#[]⟩,.int .i64 0],23,true⟩] (by kernel_rfl) (by kernel_rfl)
 replace hG:=hF.gx
 clear hF
 have z4:=hS.fr.size
 refine wp_cond_true (hK.ev 14 (by kernel_rfl) _ (by kernel_rfl)) ?_
 refine wp_symQ hS hG hK (fun p5=>[.l 15 (.agg #[.bool g,.string s,.int .i64 x]) 0 0,.p 1 0 [.bool g,.string s,.int .i64 x],.v 5 (.int .i64 0)]) (fun p5=>[(1,.int .i64 n),(2,.pointer (some ⟨(p1 0).N,0,none⟩)),(4,.pointer (some ⟨(p1 1).N,0,none⟩)),(5,.int .i64 0),(6,.int .i64 0),(10,.bool false),(14,.bool true)]) (by kernel_rfl) (fun _ _=>by kernel_rfl) (fun _=>by kernel_rfl) (fun _=>by kernel_rfl) (fun p5=>?_) (fun p5 W5 T hF hK=>?_)
 ·refine ok_L (by kernel_rfl) (by kernel_rfl) (by kernel_rfl) ?_
  refine ok_P (by kernel_rfl) (by kernel_rfl) (by kernel_rfl) ?_
  refine ok_v (by kernel_rfl) ?_
  exact ok_nil
 replace hS:=SymF.fb hS hF [0,1] [⟨(p1 0).N,#[.bool g,.string s,.int .i64 x],23,true⟩,⟨(p1 1).N,#[.bool g,.string s,.int .i64 x],23,true⟩] (by kernel_rfl) (by kernel_rfl)
 replace hG:=hF.gx
 clear hF
 have z5:=hS.fr.size
 refine wp_ret ?_
 refine then_r ?_
 exact sym_end hS hK (.tuple #[.agg #[.bool g,.string s,.int .i64 x],.int .i64 0]) [(1,0,3)] [.bool g,.string s,.int .i64 x] (by kernel_rfl) (by kernel_rfl) ⟨rfl,hS.fr⟩
theorem dsh_go (w:World) (g:Bool) (s:ByteArray) (x:Int) (n:Int) (g2:Bool) (s2:ByteArray) (x2 e2:Int) (hz:s.size≠0) (HC:Hid (∀ W:World,Calls Tryd.prog 11 #[.agg #[.bool g,.string s,.int .i64 x]] W fun e W'=>e = .returned (.int .i64 0)∧Below W.heap.size W W')) (HP:Hid (∀ W:World,Calls Tryd.prog 21 #[.bool g,.string s,.int .i64 x,.int .i64 n] W fun e W'=>e = .returned (.tuple #[.agg #[.bool g2,.string s2,.int .i64 x2],.int .i64 e2])∧Below W.heap.size W W')) :
  Calls Tryd.prog 9 #[.agg #[.bool g,.string s,.int .i64 x],.int .i64 n] w fun en w'=>en = .returned (.tuple #[.agg #[.bool g2,.string s2,.int .i64 x2],.int .i64 e2])∧Below w.heap.size w w':=by
 refine calls_sym Tryd.func9 rfl (by kernel_rfl) fun T hK=>?_
 replace hK:Kn T _ [(0,.agg #[.bool g,.string s,.int .i64 x]),(1,.int .i64 n)]:=hK
 have hS:=Fb.begin w
 have hG:GsAt [] w:=trivial
 refine wp_symQ hS hG hK (fun p1=>[.n 2 #[.bool g,.string s,.int .i64 x] 23,.n 4 #[.bool false,.string ⟨#[]⟩,.int .i64 0] 23,.v 5 (.int .i64 0)]) (fun p1=>[(1,.int .i64 n),(2,.pointer (some ⟨(p1 0).N,0,none⟩)),(4,.pointer (some ⟨(p1 1).N,0,none⟩)),(5,.int .i64 0)]) (by kernel_rfl) (fun _ _=>by kernel_rfl) (fun _=>by kernel_rfl) (fun _=>by kernel_rfl) (fun p1=>?_) (fun p1 W1 T hF hK=>?_)
 ·iterate 2 refine ok_n (fun _=>by kernel_rfl) ?_
  refine ok_v (by kernel_rfl) ?_
  exact ok_nil
 replace hS:=SymF.fb hS hF [1000,1001] [⟨(p1 0).N,#[.bool g,.string s,.int .i64 x],23,true⟩,⟨(p1 1).N,#[.bool false,.string ⟨#[]⟩,.int .i64 0],23,true⟩] (by kernel_rfl) (by kernel_rfl)
 replace hG:=hF.gx
 clear hF
 have z1:=hS.fr.size
 refine wp_seq ?_
 refine wp_symQ hS hG hK (fun p2=>[.l 7 (.agg #[.bool g,.string s,.int .i64 x]) 0 0,.c (some 8) (cV (.int .i64 0)),.v 6 (.int .i64 0)]) (fun p2=>[(1,.int .i64 n),(2,.pointer (some ⟨(p1 0).N,0,none⟩)),(4,.pointer (some ⟨(p1 1).N,0,none⟩)),(5,.int .i64 0),(6,.int .i64 0)]) (by kernel_rfl) (fun _ _=>by kernel_rfl) (fun _=>by kernel_rfl) (fun _=>by kernel_rfl) (fun p2=>?_) (fun p2 W2 T hF hK=>?_)
 ·refine ok_L (by kernel_rfl) (by kernel_rfl) (by kernel_rfl) ?_
  refine ok_c (fun W cx=>as_v (unhide HC _)) (by kernel_rfl) ?_
  refine ok_v (by kernel_rfl) ?_
  exact ok_nil
 replace hS:=SymF.fb hS hF [0,1] [⟨(p1 0).N,#[.bool g,.string s,.int .i64 x],23,true⟩,⟨(p1 1).N,#[.bool false,.string ⟨#[]⟩,.int .i64 0],23,true⟩] (by kernel_rfl) (by kernel_rfl)
 replace hG:=hF.gx
 clear hF
 have z2:=hS.fr.size
 refine wp_symQ hS hG hK (fun p3=>[.v 9 (.int .i64 0),.v 10 (.bool false)]) (fun p3=>[(1,.int .i64 n),(2,.pointer (some ⟨(p1 0).N,0,none⟩)),(4,.pointer (some ⟨(p1 1).N,0,none⟩)),(5,.int .i64 0),(6,.int .i64 0),(10,.bool false)]) (by kernel_rfl) (fun _ _=>by kernel_rfl) (fun _=>by kernel_rfl) (fun _=>by kernel_rfl) (fun p3=>?_) (fun p3 W3 T hF hK=>?_)
 ·iterate 2 refine ok_v (by kernel_rfl) ?_
  exact ok_nil
 replace hS:=SymF.fb hS hF [0,1] [⟨(p1 0).N,#[.bool g,.string s,.int .i64 x],23,true⟩,⟨(p1 1).N,#[.bool false,.string ⟨#[]⟩,.int .i64 0],23,true⟩] (by kernel_rfl) (by kernel_rfl)
 replace hG:=hF.gx
 clear hF
 have z3:=hS.fr.size
 refine wp_cond_false (hK.ev 10 (by kernel_rfl) _ (by kernel_rfl)) ?_
 refine wp_skip ?_
 refine then_n ?_
 refine wp_seq ?_
 refine wp_symQ hS hG hK (fun p4=>[.l 13 (.agg #[.bool g,.string s,.int .i64 x]) 0 0,.c (some 14) (cV (.bool false))]) (fun p4=>[(1,.int .i64 n),(2,.pointer (some ⟨(p1 0).N,0,none⟩)),(4,.pointer (some ⟨(p1 1).N,0,none⟩)),(5,.int .i64 0),(6,.int .i64 0),(10,.bool false),(14,.bool false)]) (by kernel_rfl) (fun _ _=>by kernel_rfl) (fun _=>by kernel_rfl) (fun _=>by kernel_rfl) (fun p4=>?_) (fun p4 W4 T hF hK=>?_)
 ·refine ok_L (by kernel_rfl) (by kernel_rfl) (by kernel_rfl) ?_
  refine ok_c (fun W cx=>as_v (isN_f _ g s x hz)) (by kernel_rfl) ?_
  exact ok_nil
 replace hS:=SymF.fb hS hF [0,1] [⟨(p1 0).N,#[.bool g,.string s,.int .i64 x],23,true⟩,⟨(p1 1).N,#[.bool false,.string ⟨#[]⟩,.int .i64 0],23,true⟩] (by kernel_rfl) (by kernel_rfl)
 replace hG:=hF.gx
 clear hF
 have z4:=hS.fr.size
 refine wp_cond_false (hK.ev 14 (by kernel_rfl) _ (by kernel_rfl)) ?_
 refine wp_skip ?_
 refine then_n ?_
 refine wp_symQ hS hG hK (fun p5=>[.v 16 (.pointer (some ⟨(p1 0).N,0,none⟩)),.l 17 (.bool g) 0 0,.v 18 (.pointer (some ⟨(p1 0).N,1,none⟩)),.l 19 (.string s) 0 1,.v 20 (.pointer (some ⟨(p1 0).N,2,none⟩)),.l 21 (.int .i64 x) 0 2,.v 22 (.int .i64 n),.c (some 23) (cV (.tuple #[.agg #[.bool g2,.string s2,.int .i64 x2],.int .i64 e2])),.v 24 (.agg #[.bool g2,.string s2,.int .i64 x2]),.v 25 (.int .i64 e2),.p 1 0 [.bool g2,.string s2,.int .i64 x2],.v 5 (.int .i64 e2)]) (fun p5=>[(2,.pointer (some ⟨(p1 0).N,0,none⟩)),(4,.pointer (some ⟨(p1 1).N,0,none⟩)),(5,.int .i64 e2),(6,.int .i64 0),(10,.bool false),(14,.bool false)]) (by kernel_rfl) (fun _ _=>by kernel_rfl) (fun _=>by kernel_rfl) (fun _=>by kernel_rfl) (fun p5=>?_) (fun p5 W5 T hF hK=>?_)
 ·refine ok_v (by kernel_rfl) ?_
  refine ok_L (by kernel_rfl) (by kernel_rfl) (by kernel_rfl) ?_
  refine ok_v (by kernel_rfl) ?_
  refine ok_L (by kernel_rfl) (by kernel_rfl) (by kernel_rfl) ?_
  refine ok_v (by kernel_rfl) ?_
  refine ok_L (by kernel_rfl) (by kernel_rfl) (by kernel_rfl) ?_
  refine ok_v (by kernel_rfl) ?_
  refine ok_c (fun W cx=>as_v (unhide HP _)) (by kernel_rfl) ?_
  iterate 2 refine ok_v (by kernel_rfl) ?_
  refine ok_P (by kernel_rfl) (by kernel_rfl) (by kernel_rfl) ?_
  refine ok_v (by kernel_rfl) ?_
  exact ok_nil
 replace hS:=SymF.fb hS hF [0,1] [⟨(p1 0).N,#[.bool g,.string s,.int .i64 x],23,true⟩,⟨(p1 1).N,#[.bool g2,.string s2,.int .i64 x2],23,true⟩] (by kernel_rfl) (by kernel_rfl)
 replace hG:=hF.gx
 clear hF
 have z5:=hS.fr.size
 refine wp_ret ?_
 exact sym_end hS hK (.tuple #[.agg #[.bool g2,.string s2,.int .i64 x2],.int .i64 e2]) [(1,0,3)] [.bool g2,.string s2,.int .i64 x2] (by kernel_rfl) (by kernel_rfl) ⟨rfl,hS.fr⟩
theorem sad_zt (w:World) (s:ByteArray) (x:Int) (hz:s.size = 0) :
  Calls Tryd.prog 12 #[.agg #[.bool true,.string s,.int .i64 x]] w fun en w'=>en = .returned (.tuple #[.string ⟨#[45]⟩,.string ⟨#[48]⟩])∧Below w.heap.size w w':=by
 refine calls_sym Tryd.func12 rfl (by kernel_rfl) fun T hK=>?_
 replace hK:Kn T _ [(0,.agg #[.bool true,.string s,.int .i64 x])]:=hK
 have hS:=Fb.begin w
 have hG:GsAt [] w:=trivial
 refine wp_symQ hS hG hK (fun p1=>[.n 1 #[.bool true,.string s,.int .i64 x] 23,.v 2 (.string { data:=#[] }),.v 3 (.string { data:=#[] })]) (fun p1=>[(1,.pointer (some ⟨(p1 0).N,0,none⟩)),(2,.string { data:=#[] }),(3,.string { data:=#[] })]) (by kernel_rfl) (fun _ _=>by kernel_rfl) (fun _=>by kernel_rfl) (fun _=>by kernel_rfl) (fun p1=>?_) (fun p1 W1 T hF hK=>?_)
 ·refine ok_n (fun _=>by kernel_rfl) ?_
  iterate 2 refine ok_v (by kernel_rfl) ?_
  exact ok_nil
 replace hS:=SymF.fb hS hF [1000] [⟨(p1 0).N,#[.bool true,.string s,.int .i64 x],23,true⟩] (by kernel_rfl) (by kernel_rfl)
 replace hG:=hF.gx
 clear hF
 have z1:=hS.fr.size
 refine wp_symQ hS hG hK (fun p2=>[.v 4 (.pointer (some ⟨(p1 0).N,1,none⟩)),.l 5 (.string s) 0 1,.v 3 (.string s)]) (fun p2=>[(1,.pointer (some ⟨(p1 0).N,0,none⟩)),(2,.string { data:=#[] }),(3,.string s)]) (by kernel_rfl) (fun _ _=>by kernel_rfl) (fun _=>by kernel_rfl) (fun _=>by kernel_rfl) (fun p2=>?_) (fun p2 W2 T hF hK=>?_)
 ·refine ok_v (by kernel_rfl) ?_
  refine ok_L (by kernel_rfl) (by kernel_rfl) (by kernel_rfl) ?_
  refine ok_v (by kernel_rfl) ?_
  exact ok_nil
 replace hS:=SymF.fb hS hF [0] [⟨(p1 0).N,#[.bool true,.string s,.int .i64 x],23,true⟩] (by kernel_rfl) (by kernel_rfl)
 replace hG:=hF.gx
 clear hF
 have z2:=hS.fr.size
 refine wp_seq ?_
 refine wp_symQ hS hG hK (fun p3=>[.l 6 (.agg #[.bool true,.string s,.int .i64 x]) 0 0,.c (some 7) (cV (.bool true))]) (fun p3=>[(1,.pointer (some ⟨(p1 0).N,0,none⟩)),(2,.string { data:=#[] }),(3,.string s),(7,.bool true)]) (by kernel_rfl) (fun _ _=>by kernel_rfl) (fun _=>by kernel_rfl) (fun _=>by kernel_rfl) (fun p3=>?_) (fun p3 W3 T hF hK=>?_)
 ·refine ok_L (by kernel_rfl) (by kernel_rfl) (by kernel_rfl) ?_
  refine ok_c (fun W cx=>as_v (isN_t _ true s x hz)) (by kernel_rfl) ?_
  exact ok_nil
 replace hS:=SymF.fb hS hF [0] [⟨(p1 0).N,#[.bool true,.string s,.int .i64 x],23,true⟩] (by kernel_rfl) (by kernel_rfl)
 replace hG:=hF.gx
 clear hF
 have z3:=hS.fr.size
 refine wp_cond_true (hK.ev 7 (by kernel_rfl) _ (by kernel_rfl)) ?_
 refine wp_symG hS hG hK (fun p4=>[.v 3 (.string { data:=#[48] })]) (fun p4=>[(1,.pointer (some ⟨(p1 0).N,0,none⟩)),(2,.string { data:=#[] }),(3,.string { data:=#[48] }),(7,.bool true)]) (by kernel_rfl) (fun _ _=>by kernel_rfl) (fun _=>by kernel_rfl) (fun _=>by kernel_rfl) (fun p4=>?_) (fun p4 W4 T hF hK=>?_)
 ·refine ok_v (by kernel_rfl) ?_
  exact ok_nil
 replace hS:=SymF.fb hS hF [0] [⟨(p1 0).N,#[.bool true,.string s,.int .i64 x],23,true⟩] (by kernel_rfl) (by kernel_rfl)
 replace hG:=hF.gx
 clear hF
 have z4:=hS.fr.size
 refine then_n ?_
 refine wp_seq ?_
 refine wp_symQ hS hG hK (fun p5=>[.v 8 (.pointer (some ⟨(p1 0).N,0,none⟩)),.l 9 (.bool true) 0 0]) (fun p5=>[(2,.string { data:=#[] }),(3,.string { data:=#[48] }),(7,.bool true),(9,.bool true)]) (by kernel_rfl) (fun _ _=>by kernel_rfl) (fun _=>by kernel_rfl) (fun _=>by kernel_rfl) (fun p5=>?_) (fun p5 W5 T hF hK=>?_)
 ·refine ok_v (by kernel_rfl) ?_
  refine ok_L (by kernel_rfl) (by kernel_rfl) (by kernel_rfl) ?_
  exact ok_nil
 replace hS:=SymF.fb hS hF [] [] (by kernel_rfl) (by kernel_rfl)
 replace hG:=hF.gx
 clear hF
 have z5:=hS.fr.size
 refine wp_cond_true (hK.ev 9 (by kernel_rfl) _ (by kernel_rfl)) ?_
 refine wp_symG hS hG hK (fun p6=>[.v 2 (.string { data:=#[45] })]) (fun p6=>[(2,.string { data:=#[45] }),(3,.string { data:=#[48] }),(7,.bool true),(9,.bool true)]) (by kernel_rfl) (fun _ _=>by kernel_rfl) (fun _=>by kernel_rfl) (fun _=>by kernel_rfl) (fun p6=>?_) (fun p6 W6 T hF hK=>?_)
 ·refine ok_v (by kernel_rfl) ?_
  exact ok_nil
 replace hS:=SymF.fb hS hF [] [] (by kernel_rfl) (by kernel_rfl)
 replace hG:=hF.gx
 clear hF
 have z6:=hS.fr.size
 refine then_n ?_
 refine wp_symQ hS hG hK (fun p7=>[.v 10 (.string { data:=#[45] }),.v 11 (.string { data:=#[48] }),.v 2 (.string { data:=#[45] }),.v 3 (.string { data:=#[48] })]) (fun p7=>[(2,.string { data:=#[45] }),(3,.string { data:=#[48] }),(7,.bool true),(9,.bool true)]) (by kernel_rfl) (fun _ _=>by kernel_rfl) (fun _=>by kernel_rfl) (fun _=>by kernel_rfl) (fun p7=>?_) (fun p7 W7 T hF hK=>?_)
 ·iterate 4 refine ok_v (by kernel_rfl) ?_
  exact ok_nil
 replace hS:=SymF.fb hS hF [] [] (by kernel_rfl) (by kernel_rfl)
 replace hG:=hF.gx
 clear hF
 have z7:=hS.fr.size
 refine wp_ret ?_
 exact sym_end hS hK (.tuple #[.string ⟨#[45]⟩,.string ⟨#[48]⟩]) [] [] (by kernel_rfl) (by kernel_rfl) ⟨rfl,hS.fr⟩
theorem sad_zf (w:World) (s:ByteArray) (x:Int) (hz:s.size = 0) :
  Calls Tryd.prog 12 #[.agg #[.bool false,.string s,.int .i64 x]] w fun en w'=>en = .returned (.tuple #[.string ⟨#[]⟩,.string ⟨#[48]⟩])∧Below w.heap.size w w':=by
 refine calls_sym Tryd.func12 rfl (by kernel_rfl) fun T hK=>?_
 replace hK:Kn T _ [(0,.agg #[.bool false,.string s,.int .i64 x])]:=hK
 have hS:=Fb.begin w
 have hG:GsAt [] w:=trivial
 refine wp_symQ hS hG hK (fun p1=>[.n 1 #[.bool false,.string s,.int .i64 x] 23,.v 2 (.string { data:=#[] }),.v 3 (.string { data:=#[] })]) (fun p1=>[(1,.pointer (some ⟨(p1 0).N,0,none⟩)),(2,.string { data:=#[] }),(3,.string { data:=#[] })]) (by kernel_rfl) (fun _ _=>by kernel_rfl) (fun _=>by kernel_rfl) (fun _=>by kernel_rfl) (fun p1=>?_) (fun p1 W1 T hF hK=>?_)
 ·refine ok_n (fun _=>by kernel_rfl) ?_
  iterate 2 refine ok_v (by kernel_rfl) ?_
  exact ok_nil
 replace hS:=SymF.fb hS hF [1000] [⟨(p1 0).N,#[.bool false,.string s,.int .i64 x],23,true⟩] (by kernel_rfl) (by kernel_rfl)
 replace hG:=hF.gx
 clear hF
 have z1:=hS.fr.size
 refine wp_symQ hS hG hK (fun p2=>[.v 4 (.pointer (some ⟨(p1 0).N,1,none⟩)),.l 5 (.string s) 0 1,.v 3 (.string s)]) (fun p2=>[(1,.pointer (some ⟨(p1 0).N,0,none⟩)),(2,.string { data:=#[] }),(3,.string s)]) (by kernel_rfl) (fun _ _=>by kernel_rfl) (fun _=>by kernel_rfl) (fun _=>by kernel_rfl) (fun p2=>?_) (fun p2 W2 T hF hK=>?_)
 ·refine ok_v (by kernel_rfl) ?_
  refine ok_L (by kernel_rfl) (by kernel_rfl) (by kernel_rfl) ?_
  refine ok_v (by kernel_rfl) ?_
  exact ok_nil
 replace hS:=SymF.fb hS hF [0] [⟨(p1 0).N,#[.bool false,.string s,.int .i64 x],23,true⟩] (by kernel_rfl) (by kernel_rfl)
 replace hG:=hF.gx
 clear hF
 have z2:=hS.fr.size
 refine wp_seq ?_
 refine wp_symQ hS hG hK (fun p3=>[.l 6 (.agg #[.bool false,.string s,.int .i64 x]) 0 0,.c (some 7) (cV (.bool true))]) (fun p3=>[(1,.pointer (some ⟨(p1 0).N,0,none⟩)),(2,.string { data:=#[] }),(3,.string s),(7,.bool true)]) (by kernel_rfl) (fun _ _=>by kernel_rfl) (fun _=>by kernel_rfl) (fun _=>by kernel_rfl) (fun p3=>?_) (fun p3 W3 T hF hK=>?_)
 ·refine ok_L (by kernel_rfl) (by kernel_rfl) (by kernel_rfl) ?_
  refine ok_c (fun W cx=>as_v (isN_t _ false s x hz)) (by kernel_rfl) ?_
  exact ok_nil
 replace hS:=SymF.fb hS hF [0] [⟨(p1 0).N,#[.bool false,.string s,.int .i64 x],23,true⟩] (by kernel_rfl) (by kernel_rfl)
 replace hG:=hF.gx
 clear hF
 have z3:=hS.fr.size
 refine wp_cond_true (hK.ev 7 (by kernel_rfl) _ (by kernel_rfl)) ?_
 refine wp_symG hS hG hK (fun p4=>[.v 3 (.string { data:=#[48] })]) (fun p4=>[(1,.pointer (some ⟨(p1 0).N,0,none⟩)),(2,.string { data:=#[] }),(3,.string { data:=#[48] }),(7,.bool true)]) (by kernel_rfl) (fun _ _=>by kernel_rfl) (fun _=>by kernel_rfl) (fun _=>by kernel_rfl) (fun p4=>?_) (fun p4 W4 T hF hK=>?_)
 ·refine ok_v (by kernel_rfl) ?_
  exact ok_nil
 replace hS:=SymF.fb hS hF [0] [⟨(p1 0).N,#[.bool false,.string s,.int .i64 x],23,true⟩] (by kernel_rfl) (by kernel_rfl)
 replace hG:=hF.gx
 clear hF
 have z4:=hS.fr.size
 refine then_n ?_
 refine wp_seq ?_
 refine wp_symQ hS hG hK (fun p5=>[.v 8 (.pointer (some ⟨(p1 0).N,0,none⟩)),.l 9 (.bool false) 0 0]) (fun p5=>[(2,.string { data:=#[] }),(3,.string { data:=#[48] }),(7,.bool true),(9,.bool false)]) (by kernel_rfl) (fun _ _=>by kernel_rfl) (fun _=>by kernel_rfl) (fun _=>by kernel_rfl) (fun p5=>?_) (fun p5 W5 T hF hK=>?_)
 ·refine ok_v (by kernel_rfl) ?_
  refine ok_L (by kernel_rfl) (by kernel_rfl) (by kernel_rfl) ?_
  exact ok_nil
 replace hS:=SymF.fb hS hF [] [] (by kernel_rfl) (by kernel_rfl)
 replace hG:=hF.gx
 clear hF
 have z5:=hS.fr.size
 refine wp_cond_false (hK.ev 9 (by kernel_rfl) _ (by kernel_rfl)) ?_
 refine wp_skip ?_
 refine then_n ?_
 refine wp_symQ hS hG hK (fun p6=>[.v 10 (.string { data:=#[] }),.v 11 (.string { data:=#[48] }),.v 2 (.string { data:=#[] }),.v 3 (.string { data:=#[48] })]) (fun p6=>[(2,.string { data:=#[] }),(3,.string { data:=#[48] }),(7,.bool true),(9,.bool false)]) (by kernel_rfl) (fun _ _=>by kernel_rfl) (fun _=>by kernel_rfl) (fun _=>by kernel_rfl) (fun p6=>?_) (fun p6 W6 T hF hK=>?_)
 ·iterate 4 refine ok_v (by kernel_rfl) ?_
  exact ok_nil
 replace hS:=SymF.fb hS hF [] [] (by kernel_rfl) (by kernel_rfl)
 replace hG:=hF.gx
 clear hF
 have z6:=hS.fr.size
 refine wp_ret ?_
 exact sym_end hS hK (.tuple #[.string ⟨#[]⟩,.string ⟨#[48]⟩]) [] [] (by kernel_rfl) (by kernel_rfl) ⟨rfl,hS.fr⟩
theorem sad_dt (w:World) (s:ByteArray) (x:Int) (hz:s.size≠0) :
  Calls Tryd.prog 12 #[.agg #[.bool true,.string s,.int .i64 x]] w fun en w'=>en = .returned (.tuple #[.string ⟨#[45]⟩,.string s])∧Below w.heap.size w w':=by
 refine calls_sym Tryd.func12 rfl (by kernel_rfl) fun T hK=>?_
 replace hK:Kn T _ [(0,.agg #[.bool true,.string s,.int .i64 x])]:=hK
 have hS:=Fb.begin w
 have hG:GsAt [] w:=trivial
 refine wp_symQ hS hG hK (fun p1=>[.n 1 #[.bool true,.string s,.int .i64 x] 23,.v 2 (.string { data:=#[] }),.v 3 (.string { data:=#[] })]) (fun p1=>[(1,.pointer (some ⟨(p1 0).N,0,none⟩)),(2,.string { data:=#[] }),(3,.string { data:=#[] })]) (by kernel_rfl) (fun _ _=>by kernel_rfl) (fun _=>by kernel_rfl) (fun _=>by kernel_rfl) (fun p1=>?_) (fun p1 W1 T hF hK=>?_)
 ·refine ok_n (fun _=>by kernel_rfl) ?_
  iterate 2 refine ok_v (by kernel_rfl) ?_
  exact ok_nil
 replace hS:=SymF.fb hS hF [1000] [⟨(p1 0).N,#[.bool true,.string s,.int .i64 x],23,true⟩] (by kernel_rfl) (by kernel_rfl)
 replace hG:=hF.gx
 clear hF
 have z1:=hS.fr.size
 refine wp_symQ hS hG hK (fun p2=>[.v 4 (.pointer (some ⟨(p1 0).N,1,none⟩)),.l 5 (.string s) 0 1,.v 3 (.string s)]) (fun p2=>[(1,.pointer (some ⟨(p1 0).N,0,none⟩)),(2,.string { data:=#[] }),(3,.string s)]) (by kernel_rfl) (fun _ _=>by kernel_rfl) (fun _=>by kernel_rfl) (fun _=>by kernel_rfl) (fun p2=>?_) (fun p2 W2 T hF hK=>?_)
 ·refine ok_v (by kernel_rfl) ?_
  refine ok_L (by kernel_rfl) (by kernel_rfl) (by kernel_rfl) ?_
  refine ok_v (by kernel_rfl) ?_
  exact ok_nil
 replace hS:=SymF.fb hS hF [0] [⟨(p1 0).N,#[.bool true,.string s,.int .i64 x],23,true⟩] (by kernel_rfl) (by kernel_rfl)
 replace hG:=hF.gx
 clear hF
 have z2:=hS.fr.size
 refine wp_seq ?_
 refine wp_symQ hS hG hK (fun p3=>[.l 6 (.agg #[.bool true,.string s,.int .i64 x]) 0 0,.c (some 7) (cV (.bool false))]) (fun p3=>[(1,.pointer (some ⟨(p1 0).N,0,none⟩)),(2,.string { data:=#[] }),(3,.string s),(7,.bool false)]) (by kernel_rfl) (fun _ _=>by kernel_rfl) (fun _=>by kernel_rfl) (fun _=>by kernel_rfl) (fun p3=>?_) (fun p3 W3 T hF hK=>?_)
 ·refine ok_L (by kernel_rfl) (by kernel_rfl) (by kernel_rfl) ?_
  refine ok_c (fun W cx=>as_v (isN_f _ true s x hz)) (by kernel_rfl) ?_
  exact ok_nil
 replace hS:=SymF.fb hS hF [0] [⟨(p1 0).N,#[.bool true,.string s,.int .i64 x],23,true⟩] (by kernel_rfl) (by kernel_rfl)
 replace hG:=hF.gx
 clear hF
 have z3:=hS.fr.size
 refine wp_cond_false (hK.ev 7 (by kernel_rfl) _ (by kernel_rfl)) ?_
 refine wp_skip ?_
 refine then_n ?_
 refine wp_seq ?_
 refine wp_symQ hS hG hK (fun p4=>[.v 8 (.pointer (some ⟨(p1 0).N,0,none⟩)),.l 9 (.bool true) 0 0]) (fun p4=>[(2,.string { data:=#[] }),(3,.string s),(7,.bool false),(9,.bool true)]) (by kernel_rfl) (fun _ _=>by kernel_rfl) (fun _=>by kernel_rfl) (fun _=>by kernel_rfl) (fun p4=>?_) (fun p4 W4 T hF hK=>?_)
 ·refine ok_v (by kernel_rfl) ?_
  refine ok_L (by kernel_rfl) (by kernel_rfl) (by kernel_rfl) ?_
  exact ok_nil
 replace hS:=SymF.fb hS hF [] [] (by kernel_rfl) (by kernel_rfl)
 replace hG:=hF.gx
 clear hF
 have z4:=hS.fr.size
 refine wp_cond_true (hK.ev 9 (by kernel_rfl) _ (by kernel_rfl)) ?_
 refine wp_symG hS hG hK (fun p5=>[.v 2 (.string { data:=#[45] })]) (fun p5=>[(2,.string { data:=#[45] }),(3,.string s),(7,.bool false),(9,.bool true)]) (by kernel_rfl) (fun _ _=>by kernel_rfl) (fun _=>by kernel_rfl) (fun _=>by kernel_rfl) (fun p5=>?_) (fun p5 W5 T hF hK=>?_)
 ·refine ok_v (by kernel_rfl) ?_
  exact ok_nil
 replace hS:=SymF.fb hS hF [] [] (by kernel_rfl) (by kernel_rfl)
 replace hG:=hF.gx
 clear hF
 have z5:=hS.fr.size
 refine then_n ?_
 refine wp_symQ hS hG hK (fun p6=>[.v 10 (.string { data:=#[45] }),.v 11 (.string s),.v 2 (.string { data:=#[45] }),.v 3 (.string s)]) (fun p6=>[(2,.string { data:=#[45] }),(3,.string s),(7,.bool false),(9,.bool true)]) (by kernel_rfl) (fun _ _=>by kernel_rfl) (fun _=>by kernel_rfl) (fun _=>by kernel_rfl) (fun p6=>?_) (fun p6 W6 T hF hK=>?_)
 ·iterate 4 refine ok_v (by kernel_rfl) ?_
  exact ok_nil
 replace hS:=SymF.fb hS hF [] [] (by kernel_rfl) (by kernel_rfl)
 replace hG:=hF.gx
 clear hF
 have z6:=hS.fr.size
 refine wp_ret ?_
 exact sym_end hS hK (.tuple #[.string ⟨#[45]⟩,.string s]) [] [] (by kernel_rfl) (by kernel_rfl) ⟨rfl,hS.fr⟩
theorem sad_df (w:World) (s:ByteArray) (x:Int) (hz:s.size≠0) :
  Calls Tryd.prog 12 #[.agg #[.bool false,.string s,.int .i64 x]] w fun en w'=>en = .returned (.tuple #[.string ⟨#[]⟩,.string s])∧Below w.heap.size w w':=by
 refine calls_sym Tryd.func12 rfl (by kernel_rfl) fun T hK=>?_
 replace hK:Kn T _ [(0,.agg #[.bool false,.string s,.int .i64 x])]:=hK
 have hS:=Fb.begin w
 have hG:GsAt [] w:=trivial
 refine wp_symQ hS hG hK (fun p1=>[.n 1 #[.bool false,.string s,.int .i64 x] 23,.v 2 (.string { data:=#[] }),.v 3 (.string { data:=#[] })]) (fun p1=>[(1,.pointer (some ⟨(p1 0).N,0,none⟩)),(2,.string { data:=#[] }),(3,.string { data:=#[] })]) (by kernel_rfl) (fun _ _=>by kernel_rfl) (fun _=>by kernel_rfl) (fun _=>by kernel_rfl) (fun p1=>?_) (fun p1 W1 T hF hK=>?_)
 ·refine ok_n (fun _=>by kernel_rfl) ?_
  iterate 2 refine ok_v (by kernel_rfl) ?_
  exact ok_nil
 replace hS:=SymF.fb hS hF [1000] [⟨(p1 0).N,#[.bool false,.string s,.int .i64 x],23,true⟩] (by kernel_rfl) (by kernel_rfl)
 replace hG:=hF.gx
 clear hF
 have z1:=hS.fr.size
 refine wp_symQ hS hG hK (fun p2=>[.v 4 (.pointer (some ⟨(p1 0).N,1,none⟩)),.l 5 (.string s) 0 1,.v 3 (.string s)]) (fun p2=>[(1,.pointer (some ⟨(p1 0).N,0,none⟩)),(2,.string { data:=#[] }),(3,.string s)]) (by kernel_rfl) (fun _ _=>by kernel_rfl) (fun _=>by kernel_rfl) (fun _=>by kernel_rfl) (fun p2=>?_) (fun p2 W2 T hF hK=>?_)
 ·refine ok_v (by kernel_rfl) ?_
  refine ok_L (by kernel_rfl) (by kernel_rfl) (by kernel_rfl) ?_
  refine ok_v (by kernel_rfl) ?_
  exact ok_nil
 replace hS:=SymF.fb hS hF [0] [⟨(p1 0).N,#[.bool false,.string s,.int .i64 x],23,true⟩] (by kernel_rfl) (by kernel_rfl)
 replace hG:=hF.gx
 clear hF
 have z2:=hS.fr.size
 refine wp_seq ?_
 refine wp_symQ hS hG hK (fun p3=>[.l 6 (.agg #[.bool false,.string s,.int .i64 x]) 0 0,.c (some 7) (cV (.bool false))]) (fun p3=>[(1,.pointer (some ⟨(p1 0).N,0,none⟩)),(2,.string { data:=#[] }),(3,.string s),(7,.bool false)]) (by kernel_rfl) (fun _ _=>by kernel_rfl) (fun _=>by kernel_rfl) (fun _=>by kernel_rfl) (fun p3=>?_) (fun p3 W3 T hF hK=>?_)
 ·refine ok_L (by kernel_rfl) (by kernel_rfl) (by kernel_rfl) ?_
  refine ok_c (fun W cx=>as_v (isN_f _ false s x hz)) (by kernel_rfl) ?_
  exact ok_nil
 replace hS:=SymF.fb hS hF [0] [⟨(p1 0).N,#[.bool false,.string s,.int .i64 x],23,true⟩] (by kernel_rfl) (by kernel_rfl)
 replace hG:=hF.gx
 clear hF
 have z3:=hS.fr.size
 refine wp_cond_false (hK.ev 7 (by kernel_rfl) _ (by kernel_rfl)) ?_
 refine wp_skip ?_
 refine then_n ?_
 refine wp_seq ?_
 refine wp_symQ hS hG hK (fun p4=>[.v 8 (.pointer (some ⟨(p1 0).N,0,none⟩)),.l 9 (.bool false) 0 0]) (fun p4=>[(2,.string { data:=#[] }),(3,.string s),(7,.bool false),(9,.bool false)]) (by kernel_rfl) (fun _ _=>by kernel_rfl) (fun _=>by kernel_rfl) (fun _=>by kernel_rfl) (fun p4=>?_) (fun p4 W4 T hF hK=>?_)
 ·refine ok_v (by kernel_rfl) ?_
  refine ok_L (by kernel_rfl) (by kernel_rfl) (by kernel_rfl) ?_
  exact ok_nil
 replace hS:=SymF.fb hS hF [] [] (by kernel_rfl) (by kernel_rfl)
 replace hG:=hF.gx
 clear hF
 have z4:=hS.fr.size
 refine wp_cond_false (hK.ev 9 (by kernel_rfl) _ (by kernel_rfl)) ?_
 refine wp_skip ?_
 refine then_n ?_
 refine wp_symQ hS hG hK (fun p5=>[.v 10 (.string { data:=#[] }),.v 11 (.string s),.v 2 (.string { data:=#[] }),.v 3 (.string s)]) (fun p5=>[(2,.string { data:=#[] }),(3,.string s),(7,.bool false),(9,.bool false)]) (by kernel_rfl) (fun _ _=>by kernel_rfl) (fun _=>by kernel_rfl) (fun _=>by kernel_rfl) (fun p5=>?_) (fun p5 W5 T hF hK=>?_)
 ·iterate 4 refine ok_v (by kernel_rfl) ?_
  exact ok_nil
 replace hS:=SymF.fb hS hF [] [] (by kernel_rfl) (by kernel_rfl)
 replace hG:=hF.gx
 clear hF
 have z5:=hS.fr.size
 refine wp_ret ?_
 exact sym_end hS hK (.tuple #[.string ⟨#[]⟩,.string s]) [] [] (by kernel_rfl) (by kernel_rfl) ⟨rfl,hS.fr⟩
theorem dpl_e (w:World) (g:Bool) (s:ByteArray) (x:Int) (e1:Int) (he:e1≠0) (HC:Hid (∀ W:World,Calls Tryd.prog 11 #[.agg #[.bool g,.string s,.int .i64 x]] W fun e W'=>e = .returned (.int .i64 e1)∧Below W.heap.size W W')) :
  Calls Tryd.prog 4 #[.agg #[.bool g,.string s,.int .i64 x]] w fun en w'=>en = .returned (.tuple #[.string ⟨#[]⟩,.int .i64 e1])∧Below w.heap.size w w':=by
 refine calls_sym Tryd.func4 rfl (by kernel_rfl) fun T hK=>?_
 replace hK:Kn T _ [(0,.agg #[.bool g,.string s,.int .i64 x])]:=hK
 have hS:=Fb.begin w
 have hG:GsAt [] w:=trivial
 refine wp_symQ hS hG hK (fun p1=>[.n 1 #[.bool g,.string s,.int .i64 x] 23,.v 2 (.string { data:=#[] }),.v 3 (.int .i64 0)]) (fun p1=>[(1,.pointer (some ⟨(p1 0).N,0,none⟩)),(2,.string { data:=#[] }),(3,.int .i64 0)]) (by kernel_rfl) (fun _ _=>by kernel_rfl) (fun _=>by kernel_rfl) (fun _=>by kernel_rfl) (fun p1=>?_) (fun p1 W1 T hF hK=>?_)
 ·refine ok_n (fun _=>by kernel_rfl) ?_
  iterate 2 refine ok_v (by kernel_rfl) ?_
  exact ok_nil
 replace hS:=SymF.fb hS hF [1000] [⟨(p1 0).N,#[.bool g,.string s,.int .i64 x],23,true⟩] (by kernel_rfl) (by kernel_rfl)
 replace hG:=hF.gx
 clear hF
 have z1:=hS.fr.size
 refine wp_seq ?_
 refine wp_symQ hS hG hK (fun p2=>[.l 12 (.agg #[.bool g,.string s,.int .i64 x]) 0 0,.c (some 13) (cV (.int .i64 e1)),.v 4 (.int .i64 e1)]) (fun p2=>[(1,.pointer (some ⟨(p1 0).N,0,none⟩)),(2,.string { data:=#[] }),(3,.int .i64 0),(4,.int .i64 e1)]) (by kernel_rfl) (fun _ _=>by kernel_rfl) (fun _=>by kernel_rfl) (fun _=>by kernel_rfl) (fun p2=>?_) (fun p2 W2 T hF hK=>?_)
 ·refine ok_L (by kernel_rfl) (by kernel_rfl) (by kernel_rfl) ?_
  refine ok_c (fun W cx=>as_v (unhide HC _)) (by kernel_rfl) ?_
  refine ok_v (by kernel_rfl) ?_
  exact ok_nil
 replace hS:=SymF.fb hS hF [0] [⟨(p1 0).N,#[.bool g,.string s,.int .i64 x],23,true⟩] (by kernel_rfl) (by kernel_rfl)
 replace hG:=hF.gx
 clear hF
 have z2:=hS.fr.size
 refine wp_symQ hS hG hK (fun p3=>[.v 14 (.int .i64 e1),.v 15 (.bool true)]) (fun p3=>[(1,.pointer (some ⟨(p1 0).N,0,none⟩)),(2,.string { data:=#[] }),(3,.int .i64 0),(4,.int .i64 e1),(15,.bool true)]) (by kernel_rfl) (fun _ _=>by kernel_rfl) (fun _=>by kernel_rfl) (fun _=>by kernel_rfl) (fun p3=>?_) (fun p3 W3 T hF hK=>?_)
 ·refine ok_v (by kernel_rfl) ?_
  refine ok_vb (bne_iff_ne.2 he) (by kernel_rfl) ?_
  exact ok_nil
 replace hS:=SymF.fb hS hF [0] [⟨(p1 0).N,#[.bool g,.string s,.int .i64 x],23,true⟩] (by kernel_rfl) (by kernel_rfl)
 replace hG:=hF.gx
 clear hF
 have z3:=hS.fr.size
 refine wp_cond_true (hK.ev 15 (by kernel_rfl) _ (by kernel_rfl)) ?_
 refine wp_symQ hS hG hK (fun p4=>[.v 16 (.int .i64 e1),.v 2 (.string { data:=#[] }),.v 3 (.int .i64 e1)]) (fun p4=>[(1,.pointer (some ⟨(p1 0).N,0,none⟩)),(2,.string { data:=#[] }),(3,.int .i64 e1),(15,.bool true)]) (by kernel_rfl) (fun _ _=>by kernel_rfl) (fun _=>by kernel_rfl) (fun _=>by kernel_rfl) (fun p4=>?_) (fun p4 W4 T hF hK=>?_)
 ·iterate 3 refine ok_v (by kernel_rfl) ?_
  exact ok_nil
 replace hS:=SymF.fb hS hF [0] [⟨(p1 0).N,#[.bool g,.string s,.int .i64 x],23,true⟩] (by kernel_rfl) (by kernel_rfl)
 replace hG:=hF.gx
 clear hF
 have z4:=hS.fr.size
 refine wp_ret ?_
 refine then_r ?_
 exact sym_end hS hK (.tuple #[.string ⟨#[]⟩,.int .i64 e1]) [] [] (by kernel_rfl) (by kernel_rfl) ⟨rfl,hS.fr⟩
theorem dpl_mp (w:World) (g:Bool) (s:ByteArray) (x:Int) (sg dg:ByteArray) (wh sz:Int) (hx0:-1073741824≤x) (hx1:x≤1073741824) (hsg:sg.size≤1) (hd1:1≤dg.size) (hdm:dg.size≤65536) (hneg:0≤x) (hwh:max ((dg.size:Int)+x) 1 = wh) (hsz:(sg.size:Int)+wh = sz) (hbig:65536 < sz) (HC:Hid (∀ W:World,Calls Tryd.prog 11 #[.agg #[.bool g,.string s,.int .i64 x]] W fun e W'=>e = .returned (.int .i64 0)∧Below W.heap.size W W')) (HS:Hid (∀ W:World,Calls Tryd.prog 12 #[.agg #[.bool g,.string s,.int .i64 x]] W fun e W'=>e = .returned (.tuple #[.string sg,.string dg])∧Below W.heap.size W W')) :
  Calls Tryd.prog 4 #[.agg #[.bool g,.string s,.int .i64 x]] w fun en w'=>en = .returned (.tuple #[.string ⟨#[]⟩,.int .i64 4])∧Below w.heap.size w w':=by
 refine calls_sym Tryd.func4 rfl (by kernel_rfl) fun T hK=>?_
 replace hK:Kn T _ [(0,.agg #[.bool g,.string s,.int .i64 x])]:=hK
 have hS:=Fb.begin w
 have hG:GsAt [] w:=trivial
 refine wp_symQ hS hG hK (fun p1=>[.n 1 #[.bool g,.string s,.int .i64 x] 23,.v 2 (.string { data:=#[] }),.v 3 (.int .i64 0)]) (fun p1=>[(1,.pointer (some ⟨(p1 0).N,0,none⟩)),(2,.string { data:=#[] }),(3,.int .i64 0)]) (by kernel_rfl) (fun _ _=>by kernel_rfl) (fun _=>by kernel_rfl) (fun _=>by kernel_rfl) (fun p1=>?_) (fun p1 W1 T hF hK=>?_)
 ·refine ok_n (fun _=>by kernel_rfl) ?_
  iterate 2 refine ok_v (by kernel_rfl) ?_
  exact ok_nil
 replace hS:=SymF.fb hS hF [1000] [⟨(p1 0).N,#[.bool g,.string s,.int .i64 x],23,true⟩] (by kernel_rfl) (by kernel_rfl)
 replace hG:=hF.gx
 clear hF
 have z1:=hS.fr.size
 refine wp_seq ?_
 refine wp_symQ hS hG hK (fun p2=>[.l 12 (.agg #[.bool g,.string s,.int .i64 x]) 0 0,.c (some 13) (cV (.int .i64 0)),.v 4 (.int .i64 0)]) (fun p2=>[(1,.pointer (some ⟨(p1 0).N,0,none⟩)),(2,.string { data:=#[] }),(3,.int .i64 0),(4,.int .i64 0)]) (by kernel_rfl) (fun _ _=>by kernel_rfl) (fun _=>by kernel_rfl) (fun _=>by kernel_rfl) (fun p2=>?_) (fun p2 W2 T hF hK=>?_)
 ·refine ok_L (by kernel_rfl) (by kernel_rfl) (by kernel_rfl) ?_
  refine ok_c (fun W cx=>as_v (unhide HC _)) (by kernel_rfl) ?_
  refine ok_v (by kernel_rfl) ?_
  exact ok_nil
 replace hS:=SymF.fb hS hF [0] [⟨(p1 0).N,#[.bool g,.string s,.int .i64 x],23,true⟩] (by kernel_rfl) (by kernel_rfl)
 replace hG:=hF.gx
 clear hF
 have z2:=hS.fr.size
 refine wp_symQ hS hG hK (fun p3=>[.v 14 (.int .i64 0),.v 15 (.bool false)]) (fun p3=>[(1,.pointer (some ⟨(p1 0).N,0,none⟩)),(2,.string { data:=#[] }),(3,.int .i64 0),(4,.int .i64 0),(15,.bool false)]) (by kernel_rfl) (fun _ _=>by kernel_rfl) (fun _=>by kernel_rfl) (fun _=>by kernel_rfl) (fun p3=>?_) (fun p3 W3 T hF hK=>?_)
 ·iterate 2 refine ok_v (by kernel_rfl) ?_
  exact ok_nil
 replace hS:=SymF.fb hS hF [0] [⟨(p1 0).N,#[.bool g,.string s,.int .i64 x],23,true⟩] (by kernel_rfl) (by kernel_rfl)
 replace hG:=hF.gx
 clear hF
 have z3:=hS.fr.size
 refine wp_cond_false (hK.ev 15 (by kernel_rfl) _ (by kernel_rfl)) ?_
 refine wp_skip ?_
 refine then_n ?_
 refine wp_symQ hS hG hK (fun p4=>[.l 18 (.agg #[.bool g,.string s,.int .i64 x]) 0 0,.c (some 19) (cV (.tuple #[.string sg,.string dg])),.v 17 (.tuple #[.string sg,.string dg]),.v 20 (.string sg),.v 21 (.string dg),.v 5 (.string sg),.v 6 (.string dg)]) (fun p4=>[(1,.pointer (some ⟨(p1 0).N,0,none⟩)),(2,.string { data:=#[] }),(3,.int .i64 0),(4,.int .i64 0),(5,.string sg),(6,.string dg),(15,.bool false)]) (by kernel_rfl) (fun _ _=>by kernel_rfl) (fun _=>by kernel_rfl) (fun _=>by kernel_rfl) (fun p4=>?_) (fun p4 W4 T hF hK=>?_)
 ·refine ok_L (by kernel_rfl) (by kernel_rfl) (by kernel_rfl) ?_
  refine ok_c (fun W cx=>as_v (unhide HS _)) (by kernel_rfl) ?_
  iterate 5 refine ok_v (by kernel_rfl) ?_
  exact ok_nil
 replace hS:=SymF.fb hS hF [0] [⟨(p1 0).N,#[.bool g,.string s,.int .i64 x],23,true⟩] (by kernel_rfl) (by kernel_rfl)
 replace hG:=hF.gx
 clear hF
 have z4:=hS.fr.size
 refine wp_symQ hS hG hK (fun p5=>[.v 22 (.string dg),.v 23 (.int .i64 (dg.size:Int)),.v 24 (.pointer (some ⟨(p1 0).N,2,none⟩)),.l 25 (.int .i64 x) 0 2,.v 26 (.int .i64 ((dg.size:Int)+x)),.v 27 (.int .i64 wh),.v 7 (.int .i64 wh)]) (fun p5=>[(1,.pointer (some ⟨(p1 0).N,0,none⟩)),(2,.string { data:=#[] }),(3,.int .i64 0),(4,.int .i64 0),(5,.string sg),(6,.string dg),(7,.int .i64 wh),(15,.bool false)]) (by kernel_rfl) (fun _ _=>by kernel_rfl) (fun _=>by kernel_rfl) (fun _=>by kernel_rfl) (fun p5=>?_) (fun p5 W5 T hF hK=>?_)
 ·iterate 3 refine ok_v (by kernel_rfl) ?_
  refine ok_L (by kernel_rfl) (by kernel_rfl) (by kernel_rfl) ?_
  refine ok_vi (wr64 (x:=(dg.size:Int)+x) (by omega) (by omega)) (by kernel_rfl) ?_
  refine ok_vi ((imax _ _).trans hwh) (by kernel_rfl) ?_
  refine ok_v (by kernel_rfl) ?_
  exact ok_nil
 replace hS:=SymF.fb hS hF [0] [⟨(p1 0).N,#[.bool g,.string s,.int .i64 x],23,true⟩] (by kernel_rfl) (by kernel_rfl)
 replace hG:=hF.gx
 clear hF
 have z5:=hS.fr.size
 refine wp_symQ hS hG hK (fun p6=>[.v 28 (.string sg),.v 29 (.int .i64 (sg.size:Int)),.v 30 (.int .i64 wh),.v 31 (.int .i64 sz),.v 8 (.int .i64 sz)]) (fun p6=>[(1,.pointer (some ⟨(p1 0).N,0,none⟩)),(2,.string { data:=#[] }),(3,.int .i64 0),(4,.int .i64 0),(5,.string sg),(6,.string dg),(7,.int .i64 wh),(8,.int .i64 sz),(15,.bool false)]) (by kernel_rfl) (fun _ _=>by kernel_rfl) (fun _=>by kernel_rfl) (fun _=>by kernel_rfl) (fun p6=>?_) (fun p6 W6 T hF hK=>?_)
 ·iterate 3 refine ok_v (by kernel_rfl) ?_
  refine ok_vi ((wr64 (x:=(sg.size:Int)+wh) (by omega) (by omega)).trans hsz) (by kernel_rfl) ?_
  refine ok_v (by kernel_rfl) ?_
  exact ok_nil
 replace hS:=SymF.fb hS hF [0] [⟨(p1 0).N,#[.bool g,.string s,.int .i64 x],23,true⟩] (by kernel_rfl) (by kernel_rfl)
 replace hG:=hF.gx
 clear hF
 have z6:=hS.fr.size
 refine wp_seq ?_
 refine wp_symQ hS hG hK (fun p7=>[.v 32 (.pointer (some ⟨(p1 0).N,2,none⟩)),.l 33 (.int .i64 x) 0 2,.v 34 (.bool false)]) (fun p7=>[(1,.pointer (some ⟨(p1 0).N,0,none⟩)),(2,.string { data:=#[] }),(3,.int .i64 0),(4,.int .i64 0),(5,.string sg),(6,.string dg),(7,.int .i64 wh),(8,.int .i64 sz),(15,.bool false),(34,.bool false)]) (by kernel_rfl) (fun _ _=>by kernel_rfl) (fun _=>by kernel_rfl) (fun _=>by kernel_rfl) (fun p7=>?_) (fun p7 W7 T hF hK=>?_)
 ·refine ok_v (by kernel_rfl) ?_
  refine ok_L (by kernel_rfl) (by kernel_rfl) (by kernel_rfl) ?_
  refine ok_vb (decide_eq_false (show ¬ x < 0 by omega)) (by kernel_rfl) ?_
  exact ok_nil
 replace hS:=SymF.fb hS hF [0] [⟨(p1 0).N,#[.bool g,.string s,.int .i64 x],23,true⟩] (by kernel_rfl) (by kernel_rfl)
 replace hG:=hF.gx
 clear hF
 have z7:=hS.fr.size
 refine wp_cond_false (hK.ev 34 (by kernel_rfl) _ (by kernel_rfl)) ?_
 refine wp_skip ?_
 refine then_n ?_
 refine wp_seq ?_
 refine wp_symQ hS hG hK (fun p8=>[.v 40 (.int .i64 sz),.v 41 (.bool true)]) (fun p8=>[(1,.pointer (some ⟨(p1 0).N,0,none⟩)),(2,.string { data:=#[] }),(3,.int .i64 0),(4,.int .i64 0),(5,.string sg),(6,.string dg),(7,.int .i64 wh),(8,.int .i64 sz),(15,.bool false),(34,.bool false),(41,.bool true)]) (by kernel_rfl) (fun _ _=>by kernel_rfl) (fun _=>by kernel_rfl) (fun _=>by kernel_rfl) (fun p8=>?_) (fun p8 W8 T hF hK=>?_)
 ·refine ok_v (by kernel_rfl) ?_
  refine ok_vb (decide_eq_true (show sz > 65536 by omega)) (by kernel_rfl) ?_
  exact ok_nil
 replace hS:=SymF.fb hS hF [0] [⟨(p1 0).N,#[.bool g,.string s,.int .i64 x],23,true⟩] (by kernel_rfl) (by kernel_rfl)
 replace hG:=hF.gx
 clear hF
 have z8:=hS.fr.size
 refine wp_cond_true (hK.ev 41 (by kernel_rfl) _ (by kernel_rfl)) ?_
 refine wp_symQ hS hG hK (fun p9=>[.v 2 (.string { data:=#[] }),.v 3 (.int .i64 4)]) (fun p9=>[(1,.pointer (some ⟨(p1 0).N,0,none⟩)),(2,.string { data:=#[] }),(3,.int .i64 4),(4,.int .i64 0),(5,.string sg),(6,.string dg),(7,.int .i64 wh),(8,.int .i64 sz),(15,.bool false),(34,.bool false),(41,.bool true)]) (by kernel_rfl) (fun _ _=>by kernel_rfl) (fun _=>by kernel_rfl) (fun _=>by kernel_rfl) (fun p9=>?_) (fun p9 W9 T hF hK=>?_)
 ·iterate 2 refine ok_v (by kernel_rfl) ?_
  exact ok_nil
 replace hS:=SymF.fb hS hF [0] [⟨(p1 0).N,#[.bool g,.string s,.int .i64 x],23,true⟩] (by kernel_rfl) (by kernel_rfl)
 replace hG:=hF.gx
 clear hF
 have z9:=hS.fr.size
 refine wp_ret ?_
 refine then_r ?_
 exact sym_end hS hK (.tuple #[.string ⟨#[]⟩,.int .i64 4]) [] [] (by kernel_rfl) (by kernel_rfl) ⟨rfl,hS.fr⟩
theorem dpl_mn (w:World) (g:Bool) (s:ByteArray) (x:Int) (sg dg:ByteArray) (wh sz:Int) (hx0:-1073741824≤x) (hx1:x≤1073741824) (hsg:sg.size≤1) (hd1:1≤dg.size) (hdm:dg.size≤65536) (hneg:x < 0) (hwh:max ((dg.size:Int)+x) 1 = wh) (hsz:(sg.size:Int)+wh+(1 - x) = sz) (hbig:65536 < sz) (HC:Hid (∀ W:World,Calls Tryd.prog 11 #[.agg #[.bool g,.string s,.int .i64 x]] W fun e W'=>e = .returned (.int .i64 0)∧Below W.heap.size W W')) (HS:Hid (∀ W:World,Calls Tryd.prog 12 #[.agg #[.bool g,.string s,.int .i64 x]] W fun e W'=>e = .returned (.tuple #[.string sg,.string dg])∧Below W.heap.size W W')) :
  Calls Tryd.prog 4 #[.agg #[.bool g,.string s,.int .i64 x]] w fun en w'=>en = .returned (.tuple #[.string ⟨#[]⟩,.int .i64 4])∧Below w.heap.size w w':=by
 refine calls_sym Tryd.func4 rfl (by kernel_rfl) fun T hK=>?_
 replace hK:Kn T _ [(0,.agg #[.bool g,.string s,.int .i64 x])]:=hK
 have hS:=Fb.begin w
 have hG:GsAt [] w:=trivial
 refine wp_symQ hS hG hK (fun p1=>[.n 1 #[.bool g,.string s,.int .i64 x] 23,.v 2 (.string { data:=#[] }),.v 3 (.int .i64 0)]) (fun p1=>[(1,.pointer (some ⟨(p1 0).N,0,none⟩)),(2,.string { data:=#[] }),(3,.int .i64 0)]) (by kernel_rfl) (fun _ _=>by kernel_rfl) (fun _=>by kernel_rfl) (fun _=>by kernel_rfl) (fun p1=>?_) (fun p1 W1 T hF hK=>?_)
 ·refine ok_n (fun _=>by kernel_rfl) ?_
  iterate 2 refine ok_v (by kernel_rfl) ?_
  exact ok_nil
 replace hS:=SymF.fb hS hF [1000] [⟨(p1 0).N,#[.bool g,.string s,.int .i64 x],23,true⟩] (by kernel_rfl) (by kernel_rfl)
 replace hG:=hF.gx
 clear hF
 have z1:=hS.fr.size
 refine wp_seq ?_
 refine wp_symQ hS hG hK (fun p2=>[.l 12 (.agg #[.bool g,.string s,.int .i64 x]) 0 0,.c (some 13) (cV (.int .i64 0)),.v 4 (.int .i64 0)]) (fun p2=>[(1,.pointer (some ⟨(p1 0).N,0,none⟩)),(2,.string { data:=#[] }),(3,.int .i64 0),(4,.int .i64 0)]) (by kernel_rfl) (fun _ _=>by kernel_rfl) (fun _=>by kernel_rfl) (fun _=>by kernel_rfl) (fun p2=>?_) (fun p2 W2 T hF hK=>?_)
 ·refine ok_L (by kernel_rfl) (by kernel_rfl) (by kernel_rfl) ?_
  refine ok_c (fun W cx=>as_v (unhide HC _)) (by kernel_rfl) ?_
  refine ok_v (by kernel_rfl) ?_
  exact ok_nil
 replace hS:=SymF.fb hS hF [0] [⟨(p1 0).N,#[.bool g,.string s,.int .i64 x],23,true⟩] (by kernel_rfl) (by kernel_rfl)
 replace hG:=hF.gx
 clear hF
 have z2:=hS.fr.size
 refine wp_symQ hS hG hK (fun p3=>[.v 14 (.int .i64 0),.v 15 (.bool false)]) (fun p3=>[(1,.pointer (some ⟨(p1 0).N,0,none⟩)),(2,.string { data:=#[] }),(3,.int .i64 0),(4,.int .i64 0),(15,.bool false)]) (by kernel_rfl) (fun _ _=>by kernel_rfl) (fun _=>by kernel_rfl) (fun _=>by kernel_rfl) (fun p3=>?_) (fun p3 W3 T hF hK=>?_)
 ·iterate 2 refine ok_v (by kernel_rfl) ?_
  exact ok_nil
 replace hS:=SymF.fb hS hF [0] [⟨(p1 0).N,#[.bool g,.string s,.int .i64 x],23,true⟩] (by kernel_rfl) (by kernel_rfl)
 replace hG:=hF.gx
 clear hF
 have z3:=hS.fr.size
 refine wp_cond_false (hK.ev 15 (by kernel_rfl) _ (by kernel_rfl)) ?_
 refine wp_skip ?_
 refine then_n ?_
 refine wp_symQ hS hG hK (fun p4=>[.l 18 (.agg #[.bool g,.string s,.int .i64 x]) 0 0,.c (some 19) (cV (.tuple #[.string sg,.string dg])),.v 17 (.tuple #[.string sg,.string dg]),.v 20 (.string sg),.v 21 (.string dg),.v 5 (.string sg),.v 6 (.string dg)]) (fun p4=>[(1,.pointer (some ⟨(p1 0).N,0,none⟩)),(2,.string { data:=#[] }),(3,.int .i64 0),(4,.int .i64 0),(5,.string sg),(6,.string dg),(15,.bool false)]) (by kernel_rfl) (fun _ _=>by kernel_rfl) (fun _=>by kernel_rfl) (fun _=>by kernel_rfl) (fun p4=>?_) (fun p4 W4 T hF hK=>?_)
 ·refine ok_L (by kernel_rfl) (by kernel_rfl) (by kernel_rfl) ?_
  refine ok_c (fun W cx=>as_v (unhide HS _)) (by kernel_rfl) ?_
  iterate 5 refine ok_v (by kernel_rfl) ?_
  exact ok_nil
 replace hS:=SymF.fb hS hF [0] [⟨(p1 0).N,#[.bool g,.string s,.int .i64 x],23,true⟩] (by kernel_rfl) (by kernel_rfl)
 replace hG:=hF.gx
 clear hF
 have z4:=hS.fr.size
 refine wp_symQ hS hG hK (fun p5=>[.v 22 (.string dg),.v 23 (.int .i64 (dg.size:Int)),.v 24 (.pointer (some ⟨(p1 0).N,2,none⟩)),.l 25 (.int .i64 x) 0 2,.v 26 (.int .i64 ((dg.size:Int)+x)),.v 27 (.int .i64 wh),.v 7 (.int .i64 wh)]) (fun p5=>[(1,.pointer (some ⟨(p1 0).N,0,none⟩)),(2,.string { data:=#[] }),(3,.int .i64 0),(4,.int .i64 0),(5,.string sg),(6,.string dg),(7,.int .i64 wh),(15,.bool false)]) (by kernel_rfl) (fun _ _=>by kernel_rfl) (fun _=>by kernel_rfl) (fun _=>by kernel_rfl) (fun p5=>?_) (fun p5 W5 T hF hK=>?_)
 ·iterate 3 refine ok_v (by kernel_rfl) ?_
  refine ok_L (by kernel_rfl) (by kernel_rfl) (by kernel_rfl) ?_
  refine ok_vi (wr64 (x:=(dg.size:Int)+x) (by omega) (by omega)) (by kernel_rfl) ?_
  refine ok_vi ((imax _ _).trans hwh) (by kernel_rfl) ?_
  refine ok_v (by kernel_rfl) ?_
  exact ok_nil
 replace hS:=SymF.fb hS hF [0] [⟨(p1 0).N,#[.bool g,.string s,.int .i64 x],23,true⟩] (by kernel_rfl) (by kernel_rfl)
 replace hG:=hF.gx
 clear hF
 have z5:=hS.fr.size
 refine wp_symQ hS hG hK (fun p6=>[.v 28 (.string sg),.v 29 (.int .i64 (sg.size:Int)),.v 30 (.int .i64 wh),.v 31 (.int .i64 ((sg.size:Int)+wh)),.v 8 (.int .i64 ((sg.size:Int)+wh))]) (fun p6=>[(1,.pointer (some ⟨(p1 0).N,0,none⟩)),(2,.string { data:=#[] }),(3,.int .i64 0),(4,.int .i64 0),(5,.string sg),(6,.string dg),(7,.int .i64 wh),(8,.int .i64 ((sg.size:Int)+wh)),(15,.bool false)]) (by kernel_rfl) (fun _ _=>by kernel_rfl) (fun _=>by kernel_rfl) (fun _=>by kernel_rfl) (fun p6=>?_) (fun p6 W6 T hF hK=>?_)
 ·iterate 3 refine ok_v (by kernel_rfl) ?_
  refine ok_vi (wr64 (x:=(sg.size:Int)+wh) (by omega) (by omega)) (by kernel_rfl) ?_
  refine ok_v (by kernel_rfl) ?_
  exact ok_nil
 replace hS:=SymF.fb hS hF [0] [⟨(p1 0).N,#[.bool g,.string s,.int .i64 x],23,true⟩] (by kernel_rfl) (by kernel_rfl)
 replace hG:=hF.gx
 clear hF
 have z6:=hS.fr.size
 refine wp_seq ?_
 refine wp_symQ hS hG hK (fun p7=>[.v 32 (.pointer (some ⟨(p1 0).N,2,none⟩)),.l 33 (.int .i64 x) 0 2,.v 34 (.bool true)]) (fun p7=>[(1,.pointer (some ⟨(p1 0).N,0,none⟩)),(2,.string { data:=#[] }),(3,.int .i64 0),(4,.int .i64 0),(5,.string sg),(6,.string dg),(7,.int .i64 wh),(8,.int .i64 ((sg.size:Int)+wh)),(15,.bool false),(34,.bool true)]) (by kernel_rfl) (fun _ _=>by kernel_rfl) (fun _=>by kernel_rfl) (fun _=>by kernel_rfl) (fun p7=>?_) (fun p7 W7 T hF hK=>?_)
 ·refine ok_v (by kernel_rfl) ?_
  refine ok_L (by kernel_rfl) (by kernel_rfl) (by kernel_rfl) ?_
  refine ok_vb (decide_eq_true (show x < 0 by omega)) (by kernel_rfl) ?_
  exact ok_nil
 replace hS:=SymF.fb hS hF [0] [⟨(p1 0).N,#[.bool g,.string s,.int .i64 x],23,true⟩] (by kernel_rfl) (by kernel_rfl)
 replace hG:=hF.gx
 clear hF
 have z7:=hS.fr.size
 refine wp_cond_true (hK.ev 34 (by kernel_rfl) _ (by kernel_rfl)) ?_
 refine wp_symG hS hG hK (fun p8=>[.v 35 (.int .i64 ((sg.size:Int)+wh)),.v 36 (.pointer (some ⟨(p1 0).N,2,none⟩)),.l 37 (.int .i64 x) 0 2,.v 38 (.int .i64 (1 - x)),.v 39 (.int .i64 sz),.v 8 (.int .i64 sz)]) (fun p8=>[(1,.pointer (some ⟨(p1 0).N,0,none⟩)),(2,.string { data:=#[] }),(3,.int .i64 0),(4,.int .i64 0),(5,.string sg),(6,.string dg),(7,.int .i64 wh),(8,.int .i64 sz),(15,.bool false),(34,.bool true)]) (by kernel_rfl) (fun _ _=>by kernel_rfl) (fun _=>by kernel_rfl) (fun _=>by kernel_rfl) (fun p8=>?_) (fun p8 W8 T hF hK=>?_)
 ·iterate 2 refine ok_v (by kernel_rfl) ?_
  refine ok_L (by kernel_rfl) (by kernel_rfl) (by kernel_rfl) ?_
  refine ok_vi (wr64 (x:=1 - x) (by omega) (by omega)) (by kernel_rfl) ?_
  refine ok_vi ((wr64 (x:=(sg.size:Int)+wh+(1 - x)) (by omega) (by omega)).trans hsz) (by kernel_rfl) ?_
  refine ok_v (by kernel_rfl) ?_
  exact ok_nil
 replace hS:=SymF.fb hS hF [0] [⟨(p1 0).N,#[.bool g,.string s,.int .i64 x],23,true⟩] (by kernel_rfl) (by kernel_rfl)
 replace hG:=hF.gx
 clear hF
 have z8:=hS.fr.size
 refine then_n ?_
 refine wp_seq ?_
 refine wp_symQ hS hG hK (fun p9=>[.v 40 (.int .i64 sz),.v 41 (.bool true)]) (fun p9=>[(1,.pointer (some ⟨(p1 0).N,0,none⟩)),(2,.string { data:=#[] }),(3,.int .i64 0),(4,.int .i64 0),(5,.string sg),(6,.string dg),(7,.int .i64 wh),(8,.int .i64 sz),(15,.bool false),(34,.bool true),(41,.bool true)]) (by kernel_rfl) (fun _ _=>by kernel_rfl) (fun _=>by kernel_rfl) (fun _=>by kernel_rfl) (fun p9=>?_) (fun p9 W9 T hF hK=>?_)
 ·refine ok_v (by kernel_rfl) ?_
  refine ok_vb (decide_eq_true (show sz > 65536 by omega)) (by kernel_rfl) ?_
  exact ok_nil
 replace hS:=SymF.fb hS hF [0] [⟨(p1 0).N,#[.bool g,.string s,.int .i64 x],23,true⟩] (by kernel_rfl) (by kernel_rfl)
 replace hG:=hF.gx
 clear hF
 have z9:=hS.fr.size
 refine wp_cond_true (hK.ev 41 (by kernel_rfl) _ (by kernel_rfl)) ?_
 refine wp_symQ hS hG hK (fun p10=>[.v 2 (.string { data:=#[] }),.v 3 (.int .i64 4)]) (fun p10=>[(1,.pointer (some ⟨(p1 0).N,0,none⟩)),(2,.string { data:=#[] }),(3,.int .i64 4),(4,.int .i64 0),(5,.string sg),(6,.string dg),(7,.int .i64 wh),(8,.int .i64 sz),(15,.bool false),(34,.bool true),(41,.bool true)]) (by kernel_rfl) (fun _ _=>by kernel_rfl) (fun _=>by kernel_rfl) (fun _=>by kernel_rfl) (fun p10=>?_) (fun p10 W10 T hF hK=>?_)
 ·iterate 2 refine ok_v (by kernel_rfl) ?_
  exact ok_nil
 replace hS:=SymF.fb hS hF [0] [⟨(p1 0).N,#[.bool g,.string s,.int .i64 x],23,true⟩] (by kernel_rfl) (by kernel_rfl)
 replace hG:=hF.gx
 clear hF
 have z10:=hS.fr.size
 refine wp_ret ?_
 refine then_r ?_
 exact sym_end hS hK (.tuple #[.string ⟨#[]⟩,.int .i64 4]) [] [] (by kernel_rfl) (by kernel_rfl) ⟨rfl,hS.fr⟩
theorem data_ex (s:ByteArray) (a b:Nat):(s.extract a b).data.toList = (s.data.toList.drop a).take (b - a):=by
 rw [ByteArray.data_extract,Array.toList_extract,List.extract_eq_take_drop]
theorem noS_list (k:Nat):(noS k).data.toList = List.replicate k 48:=by
 unfold noS chars
 rw [List.toList_toArray,List.map_replicate]
 rfl
theorem of_list (s:ByteArray):(⟨s.data.toList.toArray⟩:ByteArray) = s:=by
 apply ByteArray.ext
 simp
theorem size_mk (l:List UInt8):(⟨l.toArray⟩:ByteArray).size = l.length:=by simp [ByteArray.size]
theorem size_list (s:ByteArray):s.data.toList.length = s.size:=Array.length_toList
theorem ba_ext {s t:ByteArray} (h:s.data.toList = t.data.toList):s = t:=by rw [← of_list s,← of_list t,h]
theorem data_cat2 (s t:ByteArray):(s ++ t).data.toList = s.data.toList ++ t.data.toList:=by simp
theorem dsc_e (w:World) (g:Bool) (s:ByteArray) (x:Int) (e1:Int) (he:e1≠0) (HC:Hid (∀ W:World,Calls Tryd.prog 11 #[.agg #[.bool g,.string s,.int .i64 x]] W fun e W'=>e = .returned (.int .i64 e1)∧Below W.heap.size W W')) :
  Calls Tryd.prog 6 #[.agg #[.bool g,.string s,.int .i64 x]] w fun en w'=>en = .returned (.tuple #[.string ⟨#[]⟩,.int .i64 e1])∧Below w.heap.size w w':=by
 refine calls_sym Tryd.func6 rfl (by kernel_rfl) fun T hK=>?_
 replace hK:Kn T _ [(0,.agg #[.bool g,.string s,.int .i64 x])]:=hK
 have hS:=Fb.begin w
 have hG:GsAt [] w:=trivial
 refine wp_symQ hS hG hK (fun p1=>[.n 1 #[.bool g,.string s,.int .i64 x] 23,.v 2 (.string { data:=#[] }),.v 3 (.int .i64 0)]) (fun p1=>[(1,.pointer (some ⟨(p1 0).N,0,none⟩)),(2,.string { data:=#[] }),(3,.int .i64 0)]) (by kernel_rfl) (fun _ _=>by kernel_rfl) (fun _=>by kernel_rfl) (fun _=>by kernel_rfl) (fun p1=>?_) (fun p1 W1 T hF hK=>?_)
 ·refine ok_n (fun _=>by kernel_rfl) ?_
  iterate 2 refine ok_v (by kernel_rfl) ?_
  exact ok_nil
 replace hS:=SymF.fb hS hF [1000] [⟨(p1 0).N,#[.bool g,.string s,.int .i64 x],23,true⟩] (by kernel_rfl) (by kernel_rfl)
 replace hG:=hF.gx
 clear hF
 have z1:=hS.fr.size
 refine wp_seq ?_
 refine wp_symQ hS hG hK (fun p2=>[.l 8 (.agg #[.bool g,.string s,.int .i64 x]) 0 0,.c (some 9) (cV (.int .i64 e1)),.v 4 (.int .i64 e1)]) (fun p2=>[(1,.pointer (some ⟨(p1 0).N,0,none⟩)),(2,.string { data:=#[] }),(3,.int .i64 0),(4,.int .i64 e1)]) (by kernel_rfl) (fun _ _=>by kernel_rfl) (fun _=>by kernel_rfl) (fun _=>by kernel_rfl) (fun p2=>?_) (fun p2 W2 T hF hK=>?_)
 ·refine ok_L (by kernel_rfl) (by kernel_rfl) (by kernel_rfl) ?_
  refine ok_c (fun W cx=>as_v (unhide HC _)) (by kernel_rfl) ?_
  refine ok_v (by kernel_rfl) ?_
  exact ok_nil
 replace hS:=SymF.fb hS hF [0] [⟨(p1 0).N,#[.bool g,.string s,.int .i64 x],23,true⟩] (by kernel_rfl) (by kernel_rfl)
 replace hG:=hF.gx
 clear hF
 have z2:=hS.fr.size
 refine wp_symQ hS hG hK (fun p3=>[.v 10 (.int .i64 e1),.v 11 (.bool true)]) (fun p3=>[(1,.pointer (some ⟨(p1 0).N,0,none⟩)),(2,.string { data:=#[] }),(3,.int .i64 0),(4,.int .i64 e1),(11,.bool true)]) (by kernel_rfl) (fun _ _=>by kernel_rfl) (fun _=>by kernel_rfl) (fun _=>by kernel_rfl) (fun p3=>?_) (fun p3 W3 T hF hK=>?_)
 ·refine ok_v (by kernel_rfl) ?_
  refine ok_vb (bne_iff_ne.2 he) (by kernel_rfl) ?_
  exact ok_nil
 replace hS:=SymF.fb hS hF [0] [⟨(p1 0).N,#[.bool g,.string s,.int .i64 x],23,true⟩] (by kernel_rfl) (by kernel_rfl)
 replace hG:=hF.gx
 clear hF
 have z3:=hS.fr.size
 refine wp_cond_true (hK.ev 11 (by kernel_rfl) _ (by kernel_rfl)) ?_
 refine wp_symQ hS hG hK (fun p4=>[.v 12 (.int .i64 e1),.v 2 (.string { data:=#[] }),.v 3 (.int .i64 e1)]) (fun p4=>[(1,.pointer (some ⟨(p1 0).N,0,none⟩)),(2,.string { data:=#[] }),(3,.int .i64 e1),(11,.bool true)]) (by kernel_rfl) (fun _ _=>by kernel_rfl) (fun _=>by kernel_rfl) (fun _=>by kernel_rfl) (fun p4=>?_) (fun p4 W4 T hF hK=>?_)
 ·iterate 3 refine ok_v (by kernel_rfl) ?_
  exact ok_nil
 replace hS:=SymF.fb hS hF [0] [⟨(p1 0).N,#[.bool g,.string s,.int .i64 x],23,true⟩] (by kernel_rfl) (by kernel_rfl)
 replace hG:=hF.gx
 clear hF
 have z4:=hS.fr.size
 refine wp_ret ?_
 refine then_r ?_
 exact sym_end hS hK (.tuple #[.string ⟨#[]⟩,.int .i64 e1]) [] [] (by kernel_rfl) (by kernel_rfl) ⟨rfl,hS.fr⟩
theorem dsc_1 (w:World) (g:Bool) (s:ByteArray) (x:Int) (sg dg h1 u1 u2 u3 it u4:ByteArray) (y:Int) (hx0:-1073741824≤x) (hx1:x≤1073741824) (hsg:sg.size≤1) (_hdm:dg.size≤65536) (hd1:dg.size = 1) (hit:it.size≤100) (hh1:dg.extract 0 1 = h1) (hh1s:h1.size = 1) (q1c:sg ++ h1 = u1) (hu1:u1.size≤2) (hu2:u1 = u2) (hu2s:u2.size≤65539) (q4c:u2 ++ (⟨#[101]⟩:ByteArray) = u3) (hu3:u3.size≤65540) (q5c:u3 ++ it = u4) (hy:x+(dg.size:Int) - 1 = y) (HC:Hid (∀ W:World,Calls Tryd.prog 11 #[.agg #[.bool g,.string s,.int .i64 x]] W fun e W'=>e = .returned (.int .i64 0)∧Below W.heap.size W W')) (HS:Hid (∀ W:World,Calls Tryd.prog 12 #[.agg #[.bool g,.string s,.int .i64 x]] W fun e W'=>e = .returned (.tuple #[.string sg,.string dg])∧Below W.heap.size W W')) (HI:Hid (∀ W:World,Below w.heap.size w W→Calls Tryd.prog 18 #[.int .i64 y] W fun e W'=>e = .returned (.string it)∧Below W.heap.size W W')) :
  Calls Tryd.prog 6 #[.agg #[.bool g,.string s,.int .i64 x]] w fun en w'=>en = .returned (.tuple #[.string u4,.int .i64 0])∧Below w.heap.size w w':=by
 have hto:script Tryd.prog 0 (Instr.sliceAt 9 (.string dg) none (some (.int .i64 1)) none) [] = some (.string h1,[]):=by rw [← hh1]; exact script_to Tryd.under_str (by omega) (by omega)
 have e46:(⟨#[46]⟩:ByteArray).size = 1:=rfl
 have e101:(⟨#[101]⟩:ByteArray).size = 1:=rfl
 have q1:script Tryd.prog 0 (Op.stringOp .add sg h1) [] = some (.string u1,[]):=by rw [← q1c]; exact script_cat (by omega)
 subst hu2
 have q4:script Tryd.prog 0 (Op.stringOp .add u1 ⟨#[101]⟩) [] = some (.string u3,[]):=by rw [← q4c]; exact script_cat (by omega)
 have q5:script Tryd.prog 0 (Op.stringOp .add u3 it) [] = some (.string u4,[]):=by rw [← q5c]; exact script_cat (by omega)
 refine calls_sym Tryd.func6 rfl (by kernel_rfl) fun T hK=>?_
 replace hK:Kn T _ [(0,.agg #[.bool g,.string s,.int .i64 x])]:=hK
 have hS:=Fb.begin w
 have hG:GsAt [] w:=trivial
 refine wp_symQ hS hG hK (fun p1=>[.n 1 #[.bool g,.string s,.int .i64 x] 23,.v 2 (.string { data:=#[] }),.v 3 (.int .i64 0)]) (fun p1=>[(1,.pointer (some ⟨(p1 0).N,0,none⟩)),(2,.string { data:=#[] }),(3,.int .i64 0)]) (by kernel_rfl) (fun _ _=>by kernel_rfl) (fun _=>by kernel_rfl) (fun _=>by kernel_rfl) (fun p1=>?_) (fun p1 W1 T hF hK=>?_)
 ·refine ok_n (fun _=>by kernel_rfl) ?_
  iterate 2 refine ok_v (by kernel_rfl) ?_
  exact ok_nil
 replace hS:=SymF.fb hS hF [1000] [⟨(p1 0).N,#[.bool g,.string s,.int .i64 x],23,true⟩] (by kernel_rfl) (by kernel_rfl)
 replace hG:=hF.gx
 clear hF
 have z1:=hS.fr.size
 refine wp_seq ?_
 refine wp_symQ hS hG hK (fun p2=>[.l 8 (.agg #[.bool g,.string s,.int .i64 x]) 0 0,.c (some 9) (cV (.int .i64 0)),.v 4 (.int .i64 0)]) (fun p2=>[(1,.pointer (some ⟨(p1 0).N,0,none⟩)),(2,.string { data:=#[] }),(3,.int .i64 0),(4,.int .i64 0)]) (by kernel_rfl) (fun _ _=>by kernel_rfl) (fun _=>by kernel_rfl) (fun _=>by kernel_rfl) (fun p2=>?_) (fun p2 W2 T hF hK=>?_)
 ·refine ok_L (by kernel_rfl) (by kernel_rfl) (by kernel_rfl) ?_
  refine ok_c (fun W cx=>as_v (unhide HC _)) (by kernel_rfl) ?_
  refine ok_v (by kernel_rfl) ?_
  exact ok_nil
 replace hS:=SymF.fb hS hF [0] [⟨(p1 0).N,#[.bool g,.string s,.int .i64 x],23,true⟩] (by kernel_rfl) (by kernel_rfl)
 replace hG:=hF.gx
 clear hF
 have z2:=hS.fr.size
 refine wp_symQ hS hG hK (fun p3=>[.v 10 (.int .i64 0),.v 11 (.bool false)]) (fun p3=>[(1,.pointer (some ⟨(p1 0).N,0,none⟩)),(2,.string { data:=#[] }),(3,.int .i64 0),(4,.int .i64 0),(11,.bool false)]) (by kernel_rfl) (fun _ _=>by kernel_rfl) (fun _=>by kernel_rfl) (fun _=>by kernel_rfl) (fun p3=>?_) (fun p3 W3 T hF hK=>?_)
 ·iterate 2 refine ok_v (by kernel_rfl) ?_
  exact ok_nil
 replace hS:=SymF.fb hS hF [0] [⟨(p1 0).N,#[.bool g,.string s,.int .i64 x],23,true⟩] (by kernel_rfl) (by kernel_rfl)
 replace hG:=hF.gx
 clear hF
 have z3:=hS.fr.size
 refine wp_cond_false (hK.ev 11 (by kernel_rfl) _ (by kernel_rfl)) ?_
 refine wp_skip ?_
 refine then_n ?_
 refine wp_symQ hS hG hK (fun p4=>[.l 14 (.agg #[.bool g,.string s,.int .i64 x]) 0 0,.c (some 15) (cV (.tuple #[.string sg,.string dg])),.v 13 (.tuple #[.string sg,.string dg]),.v 16 (.string sg),.v 17 (.string dg),.v 5 (.string sg),.v 6 (.string dg)]) (fun p4=>[(1,.pointer (some ⟨(p1 0).N,0,none⟩)),(2,.string { data:=#[] }),(3,.int .i64 0),(4,.int .i64 0),(5,.string sg),(6,.string dg),(11,.bool false)]) (by kernel_rfl) (fun _ _=>by kernel_rfl) (fun _=>by kernel_rfl) (fun _=>by kernel_rfl) (fun p4=>?_) (fun p4 W4 T hF hK=>?_)
 ·refine ok_L (by kernel_rfl) (by kernel_rfl) (by kernel_rfl) ?_
  refine ok_c (fun W cx=>as_v (unhide HS _)) (by kernel_rfl) ?_
  iterate 5 refine ok_v (by kernel_rfl) ?_
  exact ok_nil
 replace hS:=SymF.fb hS hF [0] [⟨(p1 0).N,#[.bool g,.string s,.int .i64 x],23,true⟩] (by kernel_rfl) (by kernel_rfl)
 replace hG:=hF.gx
 clear hF
 have z4:=hS.fr.size
 refine wp_symQ hS hG hK (fun p5=>[.v 18 (.string sg),.v 19 (.string dg),.v 20 (.string h1),.v 21 (.string u1),.v 7 (.string u1)]) (fun p5=>[(1,.pointer (some ⟨(p1 0).N,0,none⟩)),(2,.string { data:=#[] }),(3,.int .i64 0),(4,.int .i64 0),(6,.string dg),(7,.string u1),(11,.bool false)]) (by kernel_rfl) (fun _ _=>by kernel_rfl) (fun _=>by kernel_rfl) (fun _=>by kernel_rfl) (fun p5=>?_) (fun p5 W5 T hF hK=>?_)
 ·iterate 2 refine ok_v (by kernel_rfl) ?_
  refine ok_vr (hto) (by kernel_rfl) ?_
  refine ok_vr (q1) (by kernel_rfl) ?_
  refine ok_v (by kernel_rfl) ?_
  exact ok_nil
 replace hS:=SymF.fb hS hF [0] [⟨(p1 0).N,#[.bool g,.string s,.int .i64 x],23,true⟩] (by kernel_rfl) (by kernel_rfl)
 replace hG:=hF.gx
 clear hF
 have z5:=hS.fr.size
 refine wp_seq ?_
 refine wp_symQ hS hG hK (fun p6=>[.v 22 (.string dg),.v 23 (.int .i64 (dg.size:Int)),.v 24 (.bool false)]) (fun p6=>[(1,.pointer (some ⟨(p1 0).N,0,none⟩)),(2,.string { data:=#[] }),(3,.int .i64 0),(4,.int .i64 0),(6,.string dg),(7,.string u1),(11,.bool false),(24,.bool false)]) (by kernel_rfl) (fun _ _=>by kernel_rfl) (fun _=>by kernel_rfl) (fun _=>by kernel_rfl) (fun p6=>?_) (fun p6 W6 T hF hK=>?_)
 ·iterate 2 refine ok_v (by kernel_rfl) ?_
  refine ok_vb (decide_eq_false (show ¬ (dg.size:Int) > 1 by omega)) (by kernel_rfl) ?_
  exact ok_nil
 replace hS:=SymF.fb hS hF [0] [⟨(p1 0).N,#[.bool g,.string s,.int .i64 x],23,true⟩] (by kernel_rfl) (by kernel_rfl)
 replace hG:=hF.gx
 clear hF
 have z6:=hS.fr.size
 refine wp_cond_false (hK.ev 24 (by kernel_rfl) _ (by kernel_rfl)) ?_
 refine wp_skip ?_
 refine then_n ?_
 refine wp_symQ hS hG hK (fun p7=>[.v 30 (.string u1),.v 31 (.string u3),.v 32 (.pointer (some ⟨(p1 0).N,2,none⟩)),.l 33 (.int .i64 x) 0 2,.v 34 (.string dg),.v 35 (.int .i64 (dg.size:Int)),.v 36 (.int .i64 (x+(dg.size:Int))),.v 37 (.int .i64 y),.c (some 38) (cV (.string it)),.v 39 (.string u4),.v 2 (.string u4),.v 3 (.int .i64 0)]) (fun p7=>[(2,.string u4),(3,.int .i64 0),(4,.int .i64 0),(6,.string dg),(7,.string u1),(11,.bool false),(24,.bool false)]) (by kernel_rfl) (fun _ _=>by kernel_rfl) (fun _=>by kernel_rfl) (fun _=>by kernel_rfl) (fun p7=>?_) (fun p7 W7 T hF hK=>?_)
 ·refine ok_v (by kernel_rfl) ?_
  refine ok_vr (q4) (by kernel_rfl) ?_
  refine ok_v (by kernel_rfl) ?_
  refine ok_L (by kernel_rfl) (by kernel_rfl) (by kernel_rfl) ?_
  iterate 2 refine ok_v (by kernel_rfl) ?_
  refine ok_vi (wr64 (x:=x+(dg.size:Int)) (by omega) (by omega)) (by kernel_rfl) ?_
  refine ok_vi ((wr64 (x:=x+(dg.size:Int) - 1) (by omega) (by omega)).trans hy) (by kernel_rfl) ?_
  refine ok_c (fun W cx=>as_v (unhide HI _ cx.fr)) (by kernel_rfl) ?_
  refine ok_vr (q5) (by kernel_rfl) ?_
  iterate 2 refine ok_v (by kernel_rfl) ?_
  exact ok_nil
 replace hS:=SymF.fb hS hF [] [] (by kernel_rfl) (by kernel_rfl)
 replace hG:=hF.gx
 clear hF
 have z7:=hS.fr.size
 refine wp_ret ?_
 exact sym_end hS hK (.tuple #[.string u4,.int .i64 0]) [] [] (by kernel_rfl) (by kernel_rfl) ⟨rfl,hS.fr⟩
theorem dsc_n (w:World) (g:Bool) (s:ByteArray) (x:Int) (sg dg h1 u1 r1 pp u2 u3 it u4:ByteArray) (y:Int) (hx0:-1073741824≤x) (hx1:x≤1073741824) (hsg:sg.size≤1) (hdm:dg.size≤65536) (hd1:1 < dg.size) (hit:it.size≤100) (hh1:dg.extract 0 1 = h1) (hh1s:h1.size = 1) (q1c:sg ++ h1 = u1) (hu1:u1.size≤2) (hr1:dg.extract 1 dg.size = r1) (hr1s:r1.size≤65536) (q2c:(⟨#[46]⟩:ByteArray) ++ r1 = pp) (hp1:pp.size≤65537) (q3c:u1 ++ pp = u2) (hu2s:u2.size≤65539) (q4c:u2 ++ (⟨#[101]⟩:ByteArray) = u3) (hu3:u3.size≤65540) (q5c:u3 ++ it = u4) (hy:x+(dg.size:Int) - 1 = y) (HC:Hid (∀ W:World,Calls Tryd.prog 11 #[.agg #[.bool g,.string s,.int .i64 x]] W fun e W'=>e = .returned (.int .i64 0)∧Below W.heap.size W W')) (HS:Hid (∀ W:World,Calls Tryd.prog 12 #[.agg #[.bool g,.string s,.int .i64 x]] W fun e W'=>e = .returned (.tuple #[.string sg,.string dg])∧Below W.heap.size W W')) (HI:Hid (∀ W:World,Below w.heap.size w W→Calls Tryd.prog 18 #[.int .i64 y] W fun e W'=>e = .returned (.string it)∧Below W.heap.size W W')) :
  Calls Tryd.prog 6 #[.agg #[.bool g,.string s,.int .i64 x]] w fun en w'=>en = .returned (.tuple #[.string u4,.int .i64 0])∧Below w.heap.size w w':=by
 have hto:script Tryd.prog 0 (Instr.sliceAt 9 (.string dg) none (some (.int .i64 1)) none) [] = some (.string h1,[]):=by rw [← hh1]; exact script_to Tryd.under_str (by omega) (by omega)
 have e46:(⟨#[46]⟩:ByteArray).size = 1:=rfl
 have e101:(⟨#[101]⟩:ByteArray).size = 1:=rfl
 have q1:script Tryd.prog 0 (Op.stringOp .add sg h1) [] = some (.string u1,[]):=by rw [← q1c]; exact script_cat (by omega)
 have hfr:script Tryd.prog 0 (Instr.sliceAt 9 (.string dg) (some (.int .i64 1)) none none) [] = some (.string r1,[]):=by rw [← hr1]; exact script_from Tryd.under_str (by omega) (by omega)
 have q2:script Tryd.prog 0 (Op.stringOp .add ⟨#[46]⟩ r1) [] = some (.string pp,[]):=by rw [← q2c]; exact script_cat (by omega)
 have q3:script Tryd.prog 0 (Op.stringOp .add u1 pp) [] = some (.string u2,[]):=by rw [← q3c]; exact script_cat (by omega)
 have q4:script Tryd.prog 0 (Op.stringOp .add u2 ⟨#[101]⟩) [] = some (.string u3,[]):=by rw [← q4c]; exact script_cat (by omega)
 have q5:script Tryd.prog 0 (Op.stringOp .add u3 it) [] = some (.string u4,[]):=by rw [← q5c]; exact script_cat (by omega)
 refine calls_sym Tryd.func6 rfl (by kernel_rfl) fun T hK=>?_
 replace hK:Kn T _ [(0,.agg #[.bool g,.string s,.int .i64 x])]:=hK
 have hS:=Fb.begin w
 have hG:GsAt [] w:=trivial
 refine wp_symQ hS hG hK (fun p1=>[.n 1 #[.bool g,.string s,.int .i64 x] 23,.v 2 (.string { data:=#[] }),.v 3 (.int .i64 0)]) (fun p1=>[(1,.pointer (some ⟨(p1 0).N,0,none⟩)),(2,.string { data:=#[] }),(3,.int .i64 0)]) (by kernel_rfl) (fun _ _=>by kernel_rfl) (fun _=>by kernel_rfl) (fun _=>by kernel_rfl) (fun p1=>?_) (fun p1 W1 T hF hK=>?_)
 ·refine ok_n (fun _=>by kernel_rfl) ?_
  iterate 2 refine ok_v (by kernel_rfl) ?_
  exact ok_nil
 replace hS:=SymF.fb hS hF [1000] [⟨(p1 0).N,#[.bool g,.string s,.int .i64 x],23,true⟩] (by kernel_rfl) (by kernel_rfl)
 replace hG:=hF.gx
 clear hF
 have z1:=hS.fr.size
 refine wp_seq ?_
 refine wp_symQ hS hG hK (fun p2=>[.l 8 (.agg #[.bool g,.string s,.int .i64 x]) 0 0,.c (some 9) (cV (.int .i64 0)),.v 4 (.int .i64 0)]) (fun p2=>[(1,.pointer (some ⟨(p1 0).N,0,none⟩)),(2,.string { data:=#[] }),(3,.int .i64 0),(4,.int .i64 0)]) (by kernel_rfl) (fun _ _=>by kernel_rfl) (fun _=>by kernel_rfl) (fun _=>by kernel_rfl) (fun p2=>?_) (fun p2 W2 T hF hK=>?_)
 ·refine ok_L (by kernel_rfl) (by kernel_rfl) (by kernel_rfl) ?_
  refine ok_c (fun W cx=>as_v (unhide HC _)) (by kernel_rfl) ?_
  refine ok_v (by kernel_rfl) ?_
  exact ok_nil
 replace hS:=SymF.fb hS hF [0] [⟨(p1 0).N,#[.bool g,.string s,.int .i64 x],23,true⟩] (by kernel_rfl) (by kernel_rfl)
 replace hG:=hF.gx
 clear hF
 have z2:=hS.fr.size
 refine wp_symQ hS hG hK (fun p3=>[.v 10 (.int .i64 0),.v 11 (.bool false)]) (fun p3=>[(1,.pointer (some ⟨(p1 0).N,0,none⟩)),(2,.string { data:=#[] }),(3,.int .i64 0),(4,.int .i64 0),(11,.bool false)]) (by kernel_rfl) (fun _ _=>by kernel_rfl) (fun _=>by kernel_rfl) (fun _=>by kernel_rfl) (fun p3=>?_) (fun p3 W3 T hF hK=>?_)
 ·iterate 2 refine ok_v (by kernel_rfl) ?_
  exact ok_nil
 replace hS:=SymF.fb hS hF [0] [⟨(p1 0).N,#[.bool g,.string s,.int .i64 x],23,true⟩] (by kernel_rfl) (by kernel_rfl)
 replace hG:=hF.gx
 clear hF
 have z3:=hS.fr.size
 refine wp_cond_false (hK.ev 11 (by kernel_rfl) _ (by kernel_rfl)) ?_
 refine wp_skip ?_
 refine then_n ?_
 refine wp_symQ hS hG hK (fun p4=>[.l 14 (.agg #[.bool g,.string s,.int .i64 x]) 0 0,.c (some 15) (cV (.tuple #[.string sg,.string dg])),.v 13 (.tuple #[.string sg,.string dg]),.v 16 (.string sg),.v 17 (.string dg),.v 5 (.string sg),.v 6 (.string dg)]) (fun p4=>[(1,.pointer (some ⟨(p1 0).N,0,none⟩)),(2,.string { data:=#[] }),(3,.int .i64 0),(4,.int .i64 0),(5,.string sg),(6,.string dg),(11,.bool false)]) (by kernel_rfl) (fun _ _=>by kernel_rfl) (fun _=>by kernel_rfl) (fun _=>by kernel_rfl) (fun p4=>?_) (fun p4 W4 T hF hK=>?_)
 ·refine ok_L (by kernel_rfl) (by kernel_rfl) (by kernel_rfl) ?_
  refine ok_c (fun W cx=>as_v (unhide HS _)) (by kernel_rfl) ?_
  iterate 5 refine ok_v (by kernel_rfl) ?_
  exact ok_nil
 replace hS:=SymF.fb hS hF [0] [⟨(p1 0).N,#[.bool g,.string s,.int .i64 x],23,true⟩] (by kernel_rfl) (by kernel_rfl)
 replace hG:=hF.gx
 clear hF
 have z4:=hS.fr.size
 refine wp_symQ hS hG hK (fun p5=>[.v 18 (.string sg),.v 19 (.string dg),.v 20 (.string h1),.v 21 (.string u1),.v 7 (.string u1)]) (fun p5=>[(1,.pointer (some ⟨(p1 0).N,0,none⟩)),(2,.string { data:=#[] }),(3,.int .i64 0),(4,.int .i64 0),(6,.string dg),(7,.string u1),(11,.bool false)]) (by kernel_rfl) (fun _ _=>by kernel_rfl) (fun _=>by kernel_rfl) (fun _=>by kernel_rfl) (fun p5=>?_) (fun p5 W5 T hF hK=>?_)
 ·iterate 2 refine ok_v (by kernel_rfl) ?_
  refine ok_vr (hto) (by kernel_rfl) ?_
  refine ok_vr (q1) (by kernel_rfl) ?_
  refine ok_v (by kernel_rfl) ?_
  exact ok_nil
 replace hS:=SymF.fb hS hF [0] [⟨(p1 0).N,#[.bool g,.string s,.int .i64 x],23,true⟩] (by kernel_rfl) (by kernel_rfl)
 replace hG:=hF.gx
 clear hF
 have z5:=hS.fr.size
 refine wp_seq ?_
 refine wp_symQ hS hG hK (fun p6=>[.v 22 (.string dg),.v 23 (.int .i64 (dg.size:Int)),.v 24 (.bool true)]) (fun p6=>[(1,.pointer (some ⟨(p1 0).N,0,none⟩)),(2,.string { data:=#[] }),(3,.int .i64 0),(4,.int .i64 0),(6,.string dg),(7,.string u1),(11,.bool false),(24,.bool true)]) (by kernel_rfl) (fun _ _=>by kernel_rfl) (fun _=>by kernel_rfl) (fun _=>by kernel_rfl) (fun p6=>?_) (fun p6 W6 T hF hK=>?_)
 ·iterate 2 refine ok_v (by kernel_rfl) ?_
  refine ok_vb (decide_eq_true (show (dg.size:Int) > 1 by omega)) (by kernel_rfl) ?_
  exact ok_nil
 replace hS:=SymF.fb hS hF [0] [⟨(p1 0).N,#[.bool g,.string s,.int .i64 x],23,true⟩] (by kernel_rfl) (by kernel_rfl)
 replace hG:=hF.gx
 clear hF
 have z6:=hS.fr.size
 refine wp_cond_true (hK.ev 24 (by kernel_rfl) _ (by kernel_rfl)) ?_
 refine wp_symG hS hG hK (fun p7=>[.v 25 (.string u1),.v 26 (.string dg),.v 27 (.string r1),.v 28 (.string pp),.v 29 (.string u2),.v 7 (.string u2)]) (fun p7=>[(1,.pointer (some ⟨(p1 0).N,0,none⟩)),(2,.string { data:=#[] }),(3,.int .i64 0),(4,.int .i64 0),(6,.string dg),(7,.string u2),(11,.bool false),(24,.bool true)]) (by kernel_rfl) (fun _ _=>by kernel_rfl) (fun _=>by kernel_rfl) (fun _=>by kernel_rfl) (fun p7=>?_) (fun p7 W7 T hF hK=>?_)
 ·iterate 2 refine ok_v (by kernel_rfl) ?_
  refine ok_vr (hfr) (by kernel_rfl) ?_
  refine ok_vr (q2) (by kernel_rfl) ?_
  refine ok_vr (q3) (by kernel_rfl) ?_
  refine ok_v (by kernel_rfl) ?_
  exact ok_nil
 replace hS:=SymF.fb hS hF [0] [⟨(p1 0).N,#[.bool g,.string s,.int .i64 x],23,true⟩] (by kernel_rfl) (by kernel_rfl)
 replace hG:=hF.gx
 clear hF
 have z7:=hS.fr.size
 refine then_n ?_
 refine wp_symQ hS hG hK (fun p8=>[.v 30 (.string u2),.v 31 (.string u3),.v 32 (.pointer (some ⟨(p1 0).N,2,none⟩)),.l 33 (.int .i64 x) 0 2,.v 34 (.string dg),.v 35 (.int .i64 (dg.size:Int)),.v 36 (.int .i64 (x+(dg.size:Int))),.v 37 (.int .i64 y),.c (some 38) (cV (.string it)),.v 39 (.string u4),.v 2 (.string u4),.v 3 (.int .i64 0)]) (fun p8=>[(2,.string u4),(3,.int .i64 0),(4,.int .i64 0),(11,.bool false),(24,.bool true)]) (by kernel_rfl) (fun _ _=>by kernel_rfl) (fun _=>by kernel_rfl) (fun _=>by kernel_rfl) (fun p8=>?_) (fun p8 W8 T hF hK=>?_)
 ·refine ok_v (by kernel_rfl) ?_
  refine ok_vr (q4) (by kernel_rfl) ?_
  refine ok_v (by kernel_rfl) ?_
  refine ok_L (by kernel_rfl) (by kernel_rfl) (by kernel_rfl) ?_
  iterate 2 refine ok_v (by kernel_rfl) ?_
  refine ok_vi (wr64 (x:=x+(dg.size:Int)) (by omega) (by omega)) (by kernel_rfl) ?_
  refine ok_vi ((wr64 (x:=x+(dg.size:Int) - 1) (by omega) (by omega)).trans hy) (by kernel_rfl) ?_
  refine ok_c (fun W cx=>as_v (unhide HI _ cx.fr)) (by kernel_rfl) ?_
  refine ok_vr (q5) (by kernel_rfl) ?_
  iterate 2 refine ok_v (by kernel_rfl) ?_
  exact ok_nil
 replace hS:=SymF.fb hS hF [] [] (by kernel_rfl) (by kernel_rfl)
 replace hG:=hF.gx
 clear hF
 have z8:=hS.fr.size
 refine wp_ret ?_
 exact sym_end hS hK (.tuple #[.string u4,.int .i64 0]) [] [] (by kernel_rfl) (by kernel_rfl) ⟨rfl,hS.fr⟩
end Go.Proofs.YtdbmdhfjmdlihaaDoor
