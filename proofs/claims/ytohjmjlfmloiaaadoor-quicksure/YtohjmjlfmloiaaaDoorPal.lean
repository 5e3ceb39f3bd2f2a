/- Of what QuickSureRow stands on: DcMakeW QkW DcChkW DcRndW DcMakesLaw DcRndL. -/
import Derived.Test.YtohjmjlfmloiaaaDoorPai
import Derived.Test.YtohjmjlfmloiaaaDoorPaj
import Derived.Test.YtohjmjlfmloiaaaDoorPak
import Derived.ChangeKeysEq
import Derived.Test.YtohjmjlfmloiaaaDoorPab
namespace Go.Proofs.YtohjmjlfmloiaaaDoor
open Go.RowKit
set_option maxHeartbeats 2000000
set_option maxRecDepth 20000
theorem Tryd.under_str:Tryd.prog.underlying 9 = some .string:=by kernel_rfl
theorem copied_any (w:World) (g:Bool) (s:ByteArray) (x:Int) (hs:s.size≤281474976710656) :
  Calls Tryd.prog 24 #[.agg #[.bool g,.string s,.int .i64 x]] w fun en w'=>en = .returned (.agg #[.bool g,.string s,.int .i64 x])∧Below w.heap.size w w':=by
 refine calls_sym Tryd.func24 rfl (by kernel_rfl) fun T hK=>?_
 replace hK:Kn T _ [(0,.agg #[.bool g,.string s,.int .i64 x])]:=hK
 have hS:=Fb.begin w
 have hG:GsAt [] w:=trivial
 refine wp_symQ hS hG hK (fun p1=>[.n 1 #[.bool g,.string s,.int .i64 x] 25,.n 2 #[.bool false,.string ⟨#[]⟩,.int .i64 0] 25]) (fun p1=>[(1,.pointer (some ⟨(p1 0).N,0,none⟩)),(2,.pointer (some ⟨(p1 1).N,0,none⟩))]) (by kernel_rfl) (fun _ _=>by kernel_rfl) (fun _=>by kernel_rfl) (fun _=>by kernel_rfl) (fun p1=>?_) (fun p1 W1 T hF hK=>?_)
 ·iterate 2 refine ok_n (fun _=>by kernel_rfl) ?_
  exact ok_nil
 replace hS:=SymF.fb hS hF [1000,1001] [⟨(p1 0).N,#[.bool g,.string s,.int .i64 x],25,true⟩,⟨(p1 1).N,#[.bool false,.string ⟨#[]⟩,.int .i64 0],25,true⟩] (by kernel_rfl) (by kernel_rfl)
 replace hG:=hF.gx
 clear hF
 have z1:=hS.fr.size
 refine wp_symQ hS hG hK (fun p2=>[.v 3 (.pointer (some ⟨(p1 0).N,1,none⟩)),.l 4 (.string s) 0 1,.c (some 5) (cV (.string s)),.v 6 (.pointer (some ⟨(p1 0).N,1,none⟩)),.p 0 1 [.string s]]) (fun p2=>[(1,.pointer (some ⟨(p1 0).N,0,none⟩)),(2,.pointer (some ⟨(p1 1).N,0,none⟩))]) (by kernel_rfl) (fun _ _=>by kernel_rfl) (fun _=>by kernel_rfl) (fun _=>by kernel_rfl) (fun p2=>?_) (fun p2 W2 T hF hK=>?_)
 ·refine ok_v (by kernel_rfl) ?_
  refine ok_L (by kernel_rfl) (by kernel_rfl) (by kernel_rfl) ?_
  refine ok_c (fun W cx=>as_v (sclone_any s _ hs)) (by kernel_rfl) ?_
  refine ok_v (by kernel_rfl) ?_
  refine ok_P (by kernel_rfl) (by kernel_rfl) (by kernel_rfl) ?_
  exact ok_nil
 replace hS:=SymF.fb hS hF [0,1] [⟨(p1 0).N,#[.bool g,.string s,.int .i64 x],25,true⟩,⟨(p1 1).N,#[.bool false,.string ⟨#[]⟩,.int .i64 0],25,true⟩] (by kernel_rfl) (by kernel_rfl)
 replace hG:=hF.gx
 clear hF
 have z2:=hS.fr.size
 refine wp_symQ hS hG hK (fun p3=>[.l 7 (.agg #[.bool g,.string s,.int .i64 x]) 0 0,.p 1 0 [.bool g,.string s,.int .i64 x]]) (fun p3=>[(2,.pointer (some ⟨(p1 1).N,0,none⟩))]) (by kernel_rfl) (fun _ _=>by kernel_rfl) (fun _=>by kernel_rfl) (fun _=>by kernel_rfl) (fun p3=>?_) (fun p3 W3 T hF hK=>?_)
 ·refine ok_L (by kernel_rfl) (by kernel_rfl) (by kernel_rfl) ?_
  refine ok_P (by kernel_rfl) (by kernel_rfl) (by kernel_rfl) ?_
  exact ok_nil
 replace hS:=SymF.fb hS hF [1] [⟨(p1 1).N,#[.bool g,.string s,.int .i64 x],25,true⟩] (by kernel_rfl) (by kernel_rfl)
 replace hG:=hF.gx
 clear hF
 have z3:=hS.fr.size
 refine wp_ret ?_
 exact sym_end hS hK (.agg #[.bool g,.string s,.int .i64 x]) [(0,0,3)] [.bool g,.string s,.int .i64 x] (by kernel_rfl) (by kernel_rfl) ⟨rfl,hS.fr⟩
theorem placed_over (w:World) (g:Bool) (s:ByteArray) (z:Nat) (x:Int) (hz:z≤65536) (hx:1073741824 < x+(z:Int)) :
  Calls Tryd.prog 15 #[.bool g,.string s,.int .i64 (z:Int),.int .i64 x] w fun en w'=>en = .returned (.tuple #[.agg #[.bool false,.string ⟨#[]⟩,.int .i64 0],.int .i64 4])∧Below w.heap.size w w':=by
 refine calls_sym Tryd.func15 rfl (by kernel_rfl) fun T hK=>?_
 replace hK:Kn T _ [(0,.bool g),(1,.string s),(2,.int .i64 (z:Int)),(3,.int .i64 x)]:=hK
 have hS:=Fb.begin w
 have hG:GsAt [] w:=trivial
 refine wp_symQ hS hG hK (fun p1=>[.n 8 #[.bool false,.string ⟨#[]⟩,.int .i64 0] 25,.v 9 (.int .i64 0)]) (fun p1=>[(0,.bool g),(1,.string s),(2,.int .i64 (z:Int)),(3,.int .i64 x),(8,.pointer (some ⟨(p1 0).N,0,none⟩)),(9,.int .i64 0)]) (by kernel_rfl) (fun _ _=>by kernel_rfl) (fun _=>by kernel_rfl) (fun _=>by kernel_rfl) (fun p1=>?_) (fun p1 W1 T hF hK=>?_)
 ·refine ok_n (fun _=>by kernel_rfl) ?_
  refine ok_v (by kernel_rfl) ?_
  exact ok_nil
 replace hS:=SymF.fb hS hF [1000] [⟨(p1 0).N,#[.bool false,.string ⟨#[]⟩,.int .i64 0],25,true⟩] (by kernel_rfl) (by kernel_rfl)
 replace hG:=hF.gx
 clear hF
 have z1:=hS.fr.size
 refine wp_seq ?_
 refine wp_symQ hS hG hK (fun p2=>[.v 10 (.int .i64 x),.v 11 (.int .i64 (z:Int)),.v 12 (.int .i64 (1073741824 - (z:Int))),.v 13 (.bool true),.v 14 (.bool true),.k (some 15),.k (some 16),.k (some 17),.k (some 18),.v 19 (.bool true)]) (fun p2=>[(0,.bool g),(1,.string s),(2,.int .i64 (z:Int)),(3,.int .i64 x),(8,.pointer (some ⟨(p1 0).N,0,none⟩)),(9,.int .i64 0),(19,.bool true)]) (by kernel_rfl) (fun _ _=>by kernel_rfl) (fun _=>by kernel_rfl) (fun _=>by kernel_rfl) (fun p2=>?_) (fun p2 W2 T hF hK=>?_)
 ·iterate 2 refine ok_v (by kernel_rfl) ?_
  refine ok_vi (wr64 (x:=1073741824 - (z:Int)) (by omega) (by omega)) (by kernel_rfl) ?_
  refine ok_vb (decide_eq_true (show x > 1073741824 - (z:Int) by omega)) (by kernel_rfl) ?_
  refine ok_v (by kernel_rfl) ?_
  iterate 4 refine ok_K (by kernel_rfl) ?_
  refine ok_v (by kernel_rfl) ?_
  exact ok_nil
 replace hS:=SymF.fb hS hF [0] [⟨(p1 0).N,#[.bool false,.string ⟨#[]⟩,.int .i64 0],25,true⟩] (by kernel_rfl) (by kernel_rfl)
 replace hG:=hF.gx
 clear hF
 have z2:=hS.fr.size
 refine wp_cond_true (hK.ev 19 (by kernel_rfl) _ (by kernel_rfl)) ?_
 refine wp_symQ hS hG hK (fun p3=>[.v 20 (.agg #[.bool false,.string ⟨#[]⟩,.int .i64 0]),.p 0 0 [.bool false,.string ⟨#[]⟩,.int .i64 0],.v 9 (.int .i64 4)]) (fun p3=>[(0,.bool g),(1,.string s),(2,.int .i64 (z:Int)),(3,.int .i64 x),(8,.pointer (some ⟨(p1 0).N,0,none⟩)),(9,.int .i64 4),(19,.bool true)]) (by kernel_rfl) (fun _ _=>by kernel_rfl) (fun _=>by kernel_rfl) (fun _=>by kernel_rfl) (fun p3=>?_) (fun p3 W3 T hF hK=>?_)
 ·refine ok_v (by kernel_rfl) ?_
  refine ok_P (by kernel_rfl) (by kernel_rfl) (by kernel_rfl) ?_
  refine ok_v (by kernel_rfl) ?_
  exact ok_nil
 replace hS:=SymF.fb hS hF [0] [⟨(p1 0).N,#[.bool false,.string ⟨#[]⟩,.int .i64 0],25,true⟩] (by kernel_rfl) (by kernel_rfl)
 replace hG:=hF.gx
 clear hF
 have z3:=hS.fr.size
 refine wp_ret ?_
 refine then_r ?_
 exact sym_end hS hK (.tuple #[.agg #[.bool false,.string ⟨#[]⟩,.int .i64 0],.int .i64 4]) [(0,0,3)] [.bool false,.string ⟨#[]⟩,.int .i64 0] (by kernel_rfl) (by kernel_rfl) ⟨rfl,hS.fr⟩
theorem placed_under (w:World) (g:Bool) (s:ByteArray) (z:Nat) (x:Int) (hz:z≤65536) (hx:x+(z:Int) < -1073741824) :
  Calls Tryd.prog 15 #[.bool g,.string s,.int .i64 (z:Int),.int .i64 x] w fun en w'=>en = .returned (.tuple #[.agg #[.bool false,.string ⟨#[]⟩,.int .i64 0],.int .i64 4])∧Below w.heap.size w w':=by
 refine calls_sym Tryd.func15 rfl (by kernel_rfl) fun T hK=>?_
 replace hK:Kn T _ [(0,.bool g),(1,.string s),(2,.int .i64 (z:Int)),(3,.int .i64 x)]:=hK
 have hS:=Fb.begin w
 have hG:GsAt [] w:=trivial
 refine wp_symQ hS hG hK (fun p1=>[.n 8 #[.bool false,.string ⟨#[]⟩,.int .i64 0] 25,.v 9 (.int .i64 0)]) (fun p1=>[(0,.bool g),(1,.string s),(2,.int .i64 (z:Int)),(3,.int .i64 x),(8,.pointer (some ⟨(p1 0).N,0,none⟩)),(9,.int .i64 0)]) (by kernel_rfl) (fun _ _=>by kernel_rfl) (fun _=>by kernel_rfl) (fun _=>by kernel_rfl) (fun p1=>?_) (fun p1 W1 T hF hK=>?_)
 ·refine ok_n (fun _=>by kernel_rfl) ?_
  refine ok_v (by kernel_rfl) ?_
  exact ok_nil
 replace hS:=SymF.fb hS hF [1000] [⟨(p1 0).N,#[.bool false,.string ⟨#[]⟩,.int .i64 0],25,true⟩] (by kernel_rfl) (by kernel_rfl)
 replace hG:=hF.gx
 clear hF
 have z1:=hS.fr.size
 refine wp_seq ?_
 refine wp_symQ hS hG hK (fun p2=>[.v 10 (.int .i64 x),.v 11 (.int .i64 (z:Int)),.v 12 (.int .i64 (1073741824 - (z:Int))),.v 13 (.bool false),.v 14 (.bool false),.v 15 (.int .i64 x),.v 16 (.int .i64 (z:Int)),.v 17 (.int .i64 (-1073741824 - (z:Int))),.v 18 (.bool true),.v 19 (.bool true)]) (fun p2=>[(0,.bool g),(1,.string s),(2,.int .i64 (z:Int)),(3,.int .i64 x),(8,.pointer (some ⟨(p1 0).N,0,none⟩)),(9,.int .i64 0),(19,.bool true)]) (by kernel_rfl) (fun _ _=>by kernel_rfl) (fun _=>by kernel_rfl) (fun _=>by kernel_rfl) (fun p2=>?_) (fun p2 W2 T hF hK=>?_)
 ·iterate 2 refine ok_v (by kernel_rfl) ?_
  refine ok_vi (wr64 (x:=1073741824 - (z:Int)) (by omega) (by omega)) (by kernel_rfl) ?_
  refine ok_vb (decide_eq_false (show ¬ x > 1073741824 - (z:Int) by omega)) (by kernel_rfl) ?_
  iterate 3 refine ok_v (by kernel_rfl) ?_
  refine ok_vi (wr64 (x:=-1073741824 - (z:Int)) (by omega) (by omega)) (by kernel_rfl) ?_
  refine ok_vb (decide_eq_true (show x < -1073741824 - (z:Int) by omega)) (by kernel_rfl) ?_
  refine ok_v (by kernel_rfl) ?_
  exact ok_nil
 replace hS:=SymF.fb hS hF [0] [⟨(p1 0).N,#[.bool false,.string ⟨#[]⟩,.int .i64 0],25,true⟩] (by kernel_rfl) (by kernel_rfl)
 replace hG:=hF.gx
 clear hF
 have z2:=hS.fr.size
 refine wp_cond_true (hK.ev 19 (by kernel_rfl) _ (by kernel_rfl)) ?_
 refine wp_symQ hS hG hK (fun p3=>[.v 20 (.agg #[.bool false,.string ⟨#[]⟩,.int .i64 0]),.p 0 0 [.bool false,.string ⟨#[]⟩,.int .i64 0],.v 9 (.int .i64 4)]) (fun p3=>[(0,.bool g),(1,.string s),(2,.int .i64 (z:Int)),(3,.int .i64 x),(8,.pointer (some ⟨(p1 0).N,0,none⟩)),(9,.int .i64 4),(19,.bool true)]) (by kernel_rfl) (fun _ _=>by kernel_rfl) (fun _=>by kernel_rfl) (fun _=>by kernel_rfl) (fun p3=>?_) (fun p3 W3 T hF hK=>?_)
 ·refine ok_v (by kernel_rfl) ?_
  refine ok_P (by kernel_rfl) (by kernel_rfl) (by kernel_rfl) ?_
  refine ok_v (by kernel_rfl) ?_
  exact ok_nil
 replace hS:=SymF.fb hS hF [0] [⟨(p1 0).N,#[.bool false,.string ⟨#[]⟩,.int .i64 0],25,true⟩] (by kernel_rfl) (by kernel_rfl)
 replace hG:=hF.gx
 clear hF
 have z3:=hS.fr.size
 refine wp_ret ?_
 refine then_r ?_
 exact sym_end hS hK (.tuple #[.agg #[.bool false,.string ⟨#[]⟩,.int .i64 0],.int .i64 4]) [(0,0,3)] [.bool false,.string ⟨#[]⟩,.int .i64 0] (by kernel_rfl) (by kernel_rfl) ⟨rfl,hS.fr⟩
theorem placed_ok (w:World) (g:Bool) (s:ByteArray) (z:Nat) (x:Int) (y:Int) (hz:z≤65536) (hs:s.size≤281474976710656) (hy:(z:Int)+x = y) (h1:-1073741824≤y) (h2:y≤1073741824) :
  Calls Tryd.prog 15 #[.bool g,.string s,.int .i64 (z:Int),.int .i64 x] w fun en w'=>en = .returned (.tuple #[.agg #[.bool g,.string s,.int .i64 y],.int .i64 0])∧Below w.heap.size w w':=by
 refine calls_sym Tryd.func15 rfl (by kernel_rfl) fun T hK=>?_
 replace hK:Kn T _ [(0,.bool g),(1,.string s),(2,.int .i64 (z:Int)),(3,.int .i64 x)]:=hK
 have hS:=Fb.begin w
 have hG:GsAt [] w:=trivial
 refine wp_symQ hS hG hK (fun p1=>[.n 8 #[.bool false,.string ⟨#[]⟩,.int .i64 0] 25,.v 9 (.int .i64 0)]) (fun p1=>[(0,.bool g),(1,.string s),(2,.int .i64 (z:Int)),(3,.int .i64 x),(8,.pointer (some ⟨(p1 0).N,0,none⟩)),(9,.int .i64 0)]) (by kernel_rfl) (fun _ _=>by kernel_rfl) (fun _=>by kernel_rfl) (fun _=>by kernel_rfl) (fun p1=>?_) (fun p1 W1 T hF hK=>?_)
 ·refine ok_n (fun _=>by kernel_rfl) ?_
  refine ok_v (by kernel_rfl) ?_
  exact ok_nil
 replace hS:=SymF.fb hS hF [1000] [⟨(p1 0).N,#[.bool false,.string ⟨#[]⟩,.int .i64 0],25,true⟩] (by kernel_rfl) (by kernel_rfl)
 replace hG:=hF.gx
 clear hF
 have z1:=hS.fr.size
 refine wp_seq ?_
 refine wp_symQ hS hG hK (fun p2=>[.v 10 (.int .i64 x),.v 11 (.int .i64 (z:Int)),.v 12 (.int .i64 (1073741824 - (z:Int))),.v 13 (.bool false),.v 14 (.bool false),.v 15 (.int .i64 x),.v 16 (.int .i64 (z:Int)),.v 17 (.int .i64 (-1073741824 - (z:Int))),.v 18 (.bool false),.v 19 (.bool false)]) (fun p2=>[(0,.bool g),(1,.string s),(2,.int .i64 (z:Int)),(3,.int .i64 x),(8,.pointer (some ⟨(p1 0).N,0,none⟩)),(9,.int .i64 0),(19,.bool false)]) (by kernel_rfl) (fun _ _=>by kernel_rfl) (fun _=>by kernel_rfl) (fun _=>by kernel_rfl) (fun p2=>?_) (fun p2 W2 T hF hK=>?_)
 ·iterate 2 refine ok_v (by kernel_rfl) ?_
  refine ok_vi (wr64 (x:=1073741824 - (z:Int)) (by omega) (by omega)) (by kernel_rfl) ?_
  refine ok_vb (decide_eq_false (show ¬ x > 1073741824 - (z:Int) by omega)) (by kernel_rfl) ?_
  iterate 3 refine ok_v (by kernel_rfl) ?_
  refine ok_vi (wr64 (x:=-1073741824 - (z:Int)) (by omega) (by omega)) (by kernel_rfl) ?_
  refine ok_vb (decide_eq_false (show ¬ x < -1073741824 - (z:Int) by omega)) (by kernel_rfl) ?_
  refine ok_v (by kernel_rfl) ?_
  exact ok_nil
 replace hS:=SymF.fb hS hF [0] [⟨(p1 0).N,#[.bool false,.string ⟨#[]⟩,.int .i64 0],25,true⟩] (by kernel_rfl) (by kernel_rfl)
 replace hG:=hF.gx
 clear hF
 have z2:=hS.fr.size
 refine wp_cond_false (hK.ev 19 (by kernel_rfl) _ (by kernel_rfl)) ?_
 refine wp_skip ?_
 refine then_n ?_
 refine wp_symQ hS hG hK (fun p3=>[.v 21 (.bool g),.v 22 (.string s),.v 23 (.int .i64 (z:Int)),.v 24 (.int .i64 x),.v 25 (.int .i64 y),.v 26 (.agg #[.bool g,.string s,.int .i64 y]),.c (some 27) (cV (.agg #[.bool g,.string s,.int .i64 y])),.p 0 0 [.bool g,.string s,.int .i64 y],.v 9 (.int .i64 0)]) (fun p3=>[(8,.pointer (some ⟨(p1 0).N,0,none⟩)),(9,.int .i64 0),(19,.bool false)]) (by kernel_rfl) (fun _ _=>by kernel_rfl) (fun _=>by kernel_rfl) (fun _=>by kernel_rfl) (fun p3=>?_) (fun p3 W3 T hF hK=>?_)
 ·iterate 4 refine ok_v (by kernel_rfl) ?_
  refine ok_vi ((wr64 (x:=(z:Int)+x) (by omega) (by omega)).trans hy) (by kernel_rfl) ?_
  refine ok_v (by kernel_rfl) ?_
  refine ok_c (fun W cx=>as_v (copied_any _ g s y hs)) (by kernel_rfl) ?_
  refine ok_P (by kernel_rfl) (by kernel_rfl) (by kernel_rfl) ?_
  refine ok_v (by kernel_rfl) ?_
  exact ok_nil
 replace hS:=SymF.fb hS hF [0] [⟨(p1 0).N,#[.bool g,.string s,.int .i64 y],25,true⟩] (by kernel_rfl) (by kernel_rfl)
 replace hG:=hF.gx
 clear hF
 have z3:=hS.fr.size
 refine wp_ret ?_
 exact sym_end hS hK (.tuple #[.agg #[.bool g,.string s,.int .i64 y],.int .i64 0]) [(0,0,3)] [.bool g,.string s,.int .i64 y] (by kernel_rfl) (by kernel_rfl) ⟨rfl,hS.fr⟩
theorem make_zero (w:World) (g:Bool) (s:ByteArray) (x:Int) (f t:Nat) (hm:s.size≤65536) (HA:Hid (∀ W:World,Calls Tryd.prog 13 #[.string s] W fun e W'=>e = .returned (.bool true)∧Below W.heap.size W W')) (HE:Hid (∀ W:World,Calls Tryd.prog 14 #[.string s] W fun e W'=>e = .returned (.tuple #[.int .i64 (f:Int),.int .i64 (t:Int)])∧Below W.heap.size W W')) (hft:f = t) :
  Calls Tryd.prog 5 #[.bool g,.string s,.int .i64 x] w fun en w'=>en = .returned (.tuple #[.agg #[.bool g,.string ⟨#[]⟩,.int .i64 0],.int .i64 0])∧Below w.heap.size w w':=by
 refine calls_sym Tryd.func5 rfl (by kernel_rfl) fun T hK=>?_
 replace hK:Kn T _ [(0,.bool g),(1,.string s),(2,.int .i64 x)]:=hK
 have hS:=Fb.begin w
 have hG:GsAt [] w:=trivial
 refine wp_symQ hS hG hK (fun p1=>[.n 6 #[.bool false,.string ⟨#[]⟩,.int .i64 0] 25,.v 7 (.int .i64 0)]) (fun p1=>[(0,.bool g),(1,.string s),(2,.int .i64 x),(6,.pointer (some ⟨(p1 0).N,0,none⟩)),(7,.int .i64 0)]) (by kernel_rfl) (fun _ _=>by kernel_rfl) (fun _=>by kernel_rfl) (fun _=>by kernel_rfl) (fun p1=>?_) (fun p1 W1 T hF hK=>?_)
 ·refine ok_n (fun _=>by kernel_rfl) ?_
  refine ok_v (by kernel_rfl) ?_
  exact ok_nil
 replace hS:=SymF.fb hS hF [1000] [⟨(p1 0).N,#[.bool false,.string ⟨#[]⟩,.int .i64 0],25,true⟩] (by kernel_rfl) (by kernel_rfl)
 replace hG:=hF.gx
 clear hF
 have z1:=hS.fr.size
 refine wp_seq ?_
 refine wp_symQ hS hG hK (fun p2=>[.v 10 (.string s),.v 11 (.int .i64 (s.size:Int)),.v 12 (.bool false)]) (fun p2=>[(0,.bool g),(1,.string s),(2,.int .i64 x),(6,.pointer (some ⟨(p1 0).N,0,none⟩)),(7,.int .i64 0),(12,.bool false)]) (by kernel_rfl) (fun _ _=>by kernel_rfl) (fun _=>by kernel_rfl) (fun _=>by kernel_rfl) (fun p2=>?_) (fun p2 W2 T hF hK=>?_)
 ·iterate 2 refine ok_v (by kernel_rfl) ?_
  refine ok_vb (decide_eq_false (show ¬ (s.size:Int) > 65536 by omega)) (by kernel_rfl) ?_
  exact ok_nil
 replace hS:=SymF.fb hS hF [0] [⟨(p1 0).N,#[.bool false,.string ⟨#[]⟩,.int .i64 0],25,true⟩] (by kernel_rfl) (by kernel_rfl)
 replace hG:=hF.gx
 clear hF
 have z2:=hS.fr.size
 refine wp_cond_false (hK.ev 12 (by kernel_rfl) _ (by kernel_rfl)) ?_
 refine wp_skip ?_
 refine then_n ?_
 refine wp_seq ?_
 refine wp_symQ hS hG hK (fun p3=>[.v 14 (.string s),.c (some 15) (cV (.bool true)),.v 16 (.bool false)]) (fun p3=>[(0,.bool g),(1,.string s),(2,.int .i64 x),(6,.pointer (some ⟨(p1 0).N,0,none⟩)),(7,.int .i64 0),(12,.bool false),(16,.bool false)]) (by kernel_rfl) (fun _ _=>by kernel_rfl) (fun _=>by kernel_rfl) (fun _=>by kernel_rfl) (fun p3=>?_) (fun p3 W3 T hF hK=>?_)
 ·refine ok_v (by kernel_rfl) ?_
  refine ok_c (fun W cx=>as_v (unhide HA _)) (by kernel_rfl) ?_
  refine ok_v (by kernel_rfl) ?_
  exact ok_nil
 replace hS:=SymF.fb hS hF [0] [⟨(p1 0).N,#[.bool false,.string ⟨#[]⟩,.int .i64 0],25,true⟩] (by kernel_rfl) (by kernel_rfl)
 replace hG:=hF.gx
 clear hF
 have z3:=hS.fr.size
 refine wp_cond_false (hK.ev 16 (by kernel_rfl) _ (by kernel_rfl)) ?_
 refine wp_skip ?_
 refine then_n ?_
 refine wp_symQ hS hG hK (fun p4=>[.v 19 (.string s),.c (some 20) (cV (.tuple #[.int .i64 (f:Int),.int .i64 (t:Int)])),.v 18 (.tuple #[.int .i64 (f:Int),.int .i64 (t:Int)]),.v 21 (.int .i64 (f:Int)),.v 22 (.int .i64 (t:Int)),.v 8 (.int .i64 (f:Int)),.v 9 (.int .i64 (t:Int))]) (fun p4=>[(0,.bool g),(1,.string s),(2,.int .i64 x),(6,.pointer (some ⟨(p1 0).N,0,none⟩)),(7,.int .i64 0),(8,.int .i64 (f:Int)),(9,.int .i64 (t:Int)),(12,.bool false),(16,.bool false)]) (by kernel_rfl) (fun _ _=>by kernel_rfl) (fun _=>by kernel_rfl) (fun _=>by kernel_rfl) (fun p4=>?_) (fun p4 W4 T hF hK=>?_)
 ·refine ok_v (by kernel_rfl) ?_
  refine ok_c (fun W cx=>as_v (unhide HE _)) (by kernel_rfl) ?_
  iterate 5 refine ok_v (by kernel_rfl) ?_
  exact ok_nil
 replace hS:=SymF.fb hS hF [0] [⟨(p1 0).N,#[.bool false,.string ⟨#[]⟩,.int .i64 0],25,true⟩] (by kernel_rfl) (by kernel_rfl)
 replace hG:=hF.gx
 clear hF
 have z4:=hS.fr.size
 refine wp_seq ?_
 refine wp_symQ hS hG hK (fun p5=>[.v 23 (.int .i64 (f:Int)),.v 24 (.int .i64 (t:Int)),.v 25 (.bool true)]) (fun p5=>[(0,.bool g),(1,.string s),(2,.int .i64 x),(6,.pointer (some ⟨(p1 0).N,0,none⟩)),(7,.int .i64 0),(8,.int .i64 (f:Int)),(9,.int .i64 (t:Int)),(12,.bool false),(16,.bool false),(25,.bool true)]) (by kernel_rfl) (fun _ _=>by kernel_rfl) (fun _=>by kernel_rfl) (fun _=>by kernel_rfl) (fun p5=>?_) (fun p5 W5 T hF hK=>?_)
 ·iterate 2 refine ok_v (by kernel_rfl) ?_
  refine ok_vb (beq_iff_eq.2 (show (f:Int) = (t:Int) by omega)) (by kernel_rfl) ?_
  exact ok_nil
 replace hS:=SymF.fb hS hF [0] [⟨(p1 0).N,#[.bool false,.string ⟨#[]⟩,.int .i64 0],25,true⟩] (by kernel_rfl) (by kernel_rfl)
 replace hG:=hF.gx
 clear hF
 have z5:=hS.fr.size
 refine wp_cond_true (hK.ev 25 (by kernel_rfl) _ (by kernel_rfl)) ?_
 refine wp_symQ hS hG hK (fun p6=>[.v 26 (.bool g),.v 27 (.agg #[.bool g,.string ⟨#[]⟩,.int .i64 0]),.p 0 0 [.bool g,.string ⟨#[]⟩,.int .i64 0],.v 7 (.int .i64 0)]) (fun p6=>[(0,.bool g),(1,.string s),(2,.int .i64 x),(6,.pointer (some ⟨(p1 0).N,0,none⟩)),(7,.int .i64 0),(8,.int .i64 (f:Int)),(9,.int .i64 (t:Int)),(12,.bool false),(16,.bool false),(25,.bool true)]) (by kernel_rfl) (fun _ _=>by kernel_rfl) (fun _=>by kernel_rfl) (fun _=>by kernel_rfl) (fun p6=>?_) (fun p6 W6 T hF hK=>?_)
 ·iterate 2 refine ok_v (by kernel_rfl) ?_
  refine ok_P (by kernel_rfl) (by kernel_rfl) (by kernel_rfl) ?_
  refine ok_v (by kernel_rfl) ?_
  exact ok_nil
 replace hS:=SymF.fb hS hF [0] [⟨(p1 0).N,#[.bool g,.string ⟨#[]⟩,.int .i64 0],25,true⟩] (by kernel_rfl) (by kernel_rfl)
 replace hG:=hF.gx
 clear hF
 have z6:=hS.fr.size
 refine wp_ret ?_
 refine then_r ?_
 exact sym_end hS hK (.tuple #[.agg #[.bool g,.string ⟨#[]⟩,.int .i64 0],.int .i64 0]) [(0,0,3)] [.bool g,.string ⟨#[]⟩,.int .i64 0] (by kernel_rfl) (by kernel_rfl) ⟨rfl,hS.fr⟩
theorem make_far (w:World) (g:Bool) (s:ByteArray) (x:Int) (f t:Nat) (u:ByteArray) (z:Nat) (hm:s.size≤65536) (HA:Hid (∀ W:World,Calls Tryd.prog 13 #[.string s] W fun e W'=>e = .returned (.bool true)∧Below W.heap.size W W')) (HE:Hid (∀ W:World,Calls Tryd.prog 14 #[.string s] W fun e W'=>e = .returned (.tuple #[.int .i64 (f:Int),.int .i64 (t:Int)])∧Below W.heap.size W W')) (hft:f < t) (ht:t≤s.size) (hu:s.extract f t = u) (hz:t+z = s.size) (HP:Hid (∀ W:World,Calls Tryd.prog 15 #[.bool g,.string u,.int .i64 (z:Int),.int .i64 x] W fun e W'=>e = .returned (.tuple #[.agg #[.bool false,.string ⟨#[]⟩,.int .i64 0],.int .i64 4])∧Below W.heap.size W W')) :
  Calls Tryd.prog 5 #[.bool g,.string s,.int .i64 x] w fun en w'=>en = .returned (.tuple #[.agg #[.bool false,.string ⟨#[]⟩,.int .i64 0],.int .i64 4])∧Below w.heap.size w w':=by
 have hsl:script Tryd.prog 0 (Instr.sliceAt 9 (.string s) (some (.int .i64 (f:Int))) (some (.int .i64 (t:Int))) none) [] = some (.string u,[]):=by rw [← hu]; exact script_slice Tryd.under_str (by omega) (by omega) (by omega)
 refine calls_sym Tryd.func5 rfl (by kernel_rfl) fun T hK=>?_
 replace hK:Kn T _ [(0,.bool g),(1,.string s),(2,.int .i64 x)]:=hK
 have hS:=Fb.begin w
 have hG:GsAt [] w:=trivial
 refine wp_symQ hS hG hK (fun p1=>[.n 6 #[.bool false,.string ⟨#[]⟩,.int .i64 0] 25,.v 7 (.int .i64 0)]) (fun p1=>[(0,.bool g),(1,.string s),(2,.int .i64 x),(6,.pointer (some ⟨(p1 0).N,0,none⟩)),(7,.int .i64 0)]) (by kernel_rfl) (fun _ _=>by kernel_rfl) (fun _=>by kernel_rfl) (fun _=>by kernel_rfl) (fun p1=>?_) (fun p1 W1 T hF hK=>?_)
 ·refine ok_n (fun _=>by kernel_rfl) ?_
  refine ok_v (by kernel_rfl) ?_
  exact ok_nil
 replace hS:=SymF.fb hS hF [1000] [⟨(p1 0).N,#[.bool false,.string ⟨#[]⟩,.int .i64 0],25,true⟩] (by kernel_rfl) (by kernel_rfl)
 replace hG:=hF.gx
 clear hF
 have z1:=hS.fr.size
 refine wp_seq ?_
 refine wp_symQ hS hG hK (fun p2=>[.v 10 (.string s),.v 11 (.int .i64 (s.size:Int)),.v 12 (.bool false)]) (fun p2=>[(0,.bool g),(1,.string s),(2,.int .i64 x),(6,.pointer (some ⟨(p1 0).N,0,none⟩)),(7,.int .i64 0),(12,.bool false)]) (by kernel_rfl) (fun _ _=>by kernel_rfl) (fun _=>by kernel_rfl) (fun _=>by kernel_rfl) (fun p2=>?_) (fun p2 W2 T hF hK=>?_)
 ·iterate 2 refine ok_v (by kernel_rfl) ?_
  refine ok_vb (decide_eq_false (show ¬ (s.size:Int) > 65536 by omega)) (by kernel_rfl) ?_
  exact ok_nil
 replace hS:=SymF.fb hS hF [0] [⟨(p1 0).N,#[.bool false,.string ⟨#[]⟩,.int .i64 0],25,true⟩] (by kernel_rfl) (by kernel_rfl)
 replace hG:=hF.gx
 clear hF
 have z2:=hS.fr.size
 refine wp_cond_false (hK.ev 12 (by kernel_rfl) _ (by kernel_rfl)) ?_
 refine wp_skip ?_
 refine then_n ?_
 refine wp_seq ?_
 refine wp_symQ hS hG hK (fun p3=>[.v 14 (.string s),.c (some 15) (cV (.bool true)),.v 16 (.bool false)]) (fun p3=>[(0,.bool g),(1,.string s),(2,.int .i64 x),(6,.pointer (some ⟨(p1 0).N,0,none⟩)),(7,.int .i64 0),(12,.bool false),(16,.bool false)]) (by kernel_rfl) (fun _ _=>by kernel_rfl) (fun _=>by kernel_rfl) (fun _=>by kernel_rfl) (fun p3=>?_) (fun p3 W3 T hF hK=>?_)
 ·refine ok_v (by kernel_rfl) ?_
  refine ok_c (fun W cx=>as_v (unhide HA _)) (by kernel_rfl) ?_
  refine ok_v (by kernel_rfl) ?_
  exact ok_nil
 replace hS:=SymF.fb hS hF [0] [⟨(p1 0).N,#[.bool false,.string ⟨#[]⟩,.int .i64 0],25,true⟩] (by kernel_rfl) (by kernel_rfl)
 replace hG:=hF.gx
 clear hF
 have z3:=hS.fr.size
 refine wp_cond_false (hK.ev 16 (by kernel_rfl) _ (by kernel_rfl)) ?_
 refine wp_skip ?_
 refine then_n ?_
 refine wp_symQ hS hG hK (fun p4=>[.v 19 (.string s),.c (some 20) (cV (.tuple #[.int .i64 (f:Int),.int .i64 (t:Int)])),.v 18 (.tuple #[.int .i64 (f:Int),.int .i64 (t:Int)]),.v 21 (.int .i64 (f:Int)),.v 22 (.int .i64 (t:Int)),.v 8 (.int .i64 (f:Int)),.v 9 (.int .i64 (t:Int))]) (fun p4=>[(0,.bool g),(1,.string s),(2,.int .i64 x),(6,.pointer (some ⟨(p1 0).N,0,none⟩)),(7,.int .i64 0),(8,.int .i64 (f:Int)),(9,.int .i64 (t:Int)),(12,.bool false),(16,.bool false)]) (by kernel_rfl) (fun _ _=>by kernel_rfl) (fun _=>by kernel_rfl) (fun _=>by kernel_rfl) (fun p4=>?_) (fun p4 W4 T hF hK=>?_)
 ·refine ok_v (by kernel_rfl) ?_
  refine ok_c (fun W cx=>as_v (unhide HE _)) (by kernel_rfl) ?_
  iterate 5 refine ok_v (by kernel_rfl) ?_
  exact ok_nil
 replace hS:=SymF.fb hS hF [0] [⟨(p1 0).N,#[.bool false,.string ⟨#[]⟩,.int .i64 0],25,true⟩] (by kernel_rfl) (by kernel_rfl)
 replace hG:=hF.gx
 clear hF
 have z4:=hS.fr.size
 refine wp_seq ?_
 refine wp_symQ hS hG hK (fun p5=>[.v 23 (.int .i64 (f:Int)),.v 24 (.int .i64 (t:Int)),.v 25 (.bool false)]) (fun p5=>[(0,.bool g),(1,.string s),(2,.int .i64 x),(6,.pointer (some ⟨(p1 0).N,0,none⟩)),(7,.int .i64 0),(8,.int .i64 (f:Int)),(9,.int .i64 (t:Int)),(12,.bool false),(16,.bool false),(25,.bool false)]) (by kernel_rfl) (fun _ _=>by kernel_rfl) (fun _=>by kernel_rfl) (fun _=>by kernel_rfl) (fun p5=>?_) (fun p5 W5 T hF hK=>?_)
 ·iterate 2 refine ok_v (by kernel_rfl) ?_
  refine ok_vb (beq_false_of_ne (show (f:Int)≠(t:Int) by omega)) (by kernel_rfl) ?_
  exact ok_nil
 replace hS:=SymF.fb hS hF [0] [⟨(p1 0).N,#[.bool false,.string ⟨#[]⟩,.int .i64 0],25,true⟩] (by kernel_rfl) (by kernel_rfl)
 replace hG:=hF.gx
 clear hF
 have z5:=hS.fr.size
 refine wp_cond_false (hK.ev 25 (by kernel_rfl) _ (by kernel_rfl)) ?_
 refine wp_skip ?_
 refine then_n ?_
 refine wp_symQ hS hG hK (fun p6=>[.v 28 (.bool g),.v 29 (.string s),.v 30 (.int .i64 (f:Int)),.v 31 (.int .i64 (t:Int)),.v 32 (.string u),.v 33 (.string s),.v 34 (.int .i64 (s.size:Int)),.v 35 (.int .i64 (t:Int)),.v 36 (.int .i64 (z:Int)),.v 37 (.int .i64 x),.c (some 38) (cV (.tuple #[.agg #[.bool false,.string ⟨#[]⟩,.int .i64 0],.int .i64 4])),.v 39 (.agg #[.bool false,.string ⟨#[]⟩,.int .i64 0]),.v 40 (.int .i64 4),.p 0 0 [.bool false,.string ⟨#[]⟩,.int .i64 0],.v 7 (.int .i64 4)]) (fun p6=>[(0,.bool g),(6,.pointer (some ⟨(p1 0).N,0,none⟩)),(7,.int .i64 4),(12,.bool false),(16,.bool false),(25,.bool false)]) (by kernel_rfl) (fun _ _=>by kernel_rfl) (fun _=>by kernel_rfl) (fun _=>by kernel_rfl) (fun p6=>?_) (fun p6 W6 T hF hK=>?_)
 ·iterate 4 refine ok_v (by kernel_rfl) ?_
  refine ok_vr (hsl) (by kernel_rfl) ?_
  iterate 3 refine ok_v (by kernel_rfl) ?_
  refine ok_vi ((wr64 (x:=(s.size:Int) - (t:Int)) (by omega) (by omega)).trans (by omega)) (by kernel_rfl) ?_
  refine ok_v (by kernel_rfl) ?_
  refine ok_c (fun W cx=>as_v (unhide HP _)) (by kernel_rfl) ?_
  iterate 2 refine ok_v (by kernel_rfl) ?_
  refine ok_P (by kernel_rfl) (by kernel_rfl) (by kernel_rfl) ?_
  refine ok_v (by kernel_rfl) ?_
  exact ok_nil
 replace hS:=SymF.fb hS hF [0] [⟨(p1 0).N,#[.bool false,.string ⟨#[]⟩,.int .i64 0],25,true⟩] (by kernel_rfl) (by kernel_rfl)
 replace hG:=hF.gx
 clear hF
 have z6:=hS.fr.size
 refine wp_ret ?_
 exact sym_end hS hK (.tuple #[.agg #[.bool false,.string ⟨#[]⟩,.int .i64 0],.int .i64 4]) [(0,0,3)] [.bool false,.string ⟨#[]⟩,.int .i64 0] (by kernel_rfl) (by kernel_rfl) ⟨rfl,hS.fr⟩
theorem make_ok (w:World) (g:Bool) (s:ByteArray) (x:Int) (f t:Nat) (u:ByteArray) (z:Nat) (y:Int) (hm:s.size≤65536) (HA:Hid (∀ W:World,Calls Tryd.prog 13 #[.string s] W fun e W'=>e = .returned (.bool true)∧Below W.heap.size W W')) (HE:Hid (∀ W:World,Calls Tryd.prog 14 #[.string s] W fun e W'=>e = .returned (.tuple #[.int .i64 (f:Int),.int .i64 (t:Int)])∧Below W.heap.size W W')) (hft:f < t) (ht:t≤s.size) (hu:s.extract f t = u) (hz:t+z = s.size) (HP:Hid (∀ W:World,Calls Tryd.prog 15 #[.bool g,.string u,.int .i64 (z:Int),.int .i64 x] W fun e W'=>e = .returned (.tuple #[.agg #[.bool g,.string u,.int .i64 y],.int .i64 0])∧Below W.heap.size W W')) :
  Calls Tryd.prog 5 #[.bool g,.string s,.int .i64 x] w fun en w'=>en = .returned (.tuple #[.agg #[.bool g,.string u,.int .i64 y],.int .i64 0])∧Below w.heap.size w w':=by
 have hsl:script Tryd.prog 0 (Instr.sliceAt 9 (.string s) (some (.int .i64 (f:Int))) (some (.int .i64 (t:Int))) none) [] = some (.string u,[]):=by rw [← hu]; exact script_slice Tryd.under_str (by omega) (by omega) (by omega)
 refine calls_sym Tryd.func5 rfl (by kernel_rfl) fun T hK=>?_
 replace hK:Kn T _ [(0,.bool g),(1,.string s),(2,.int .i64 x)]:=hK
 have hS:=Fb.begin w
 have hG:GsAt [] w:=trivial
 refine wp_symQ hS hG hK (fun p1=>[.n 6 #[.bool false,.string ⟨#[]⟩,.int .i64 0] 25,.v 7 (.int .i64 0)]) (fun p1=>[(0,.bool g),(1,.string s),(2,.int .i64 x),(6,.pointer (some ⟨(p1 0).N,0,none⟩)),(7,.int .i64 0)]) (by kernel_rfl) (fun _ _=>by kernel_rfl) (fun _=>by kernel_rfl) (fun _=>by kernel_rfl) (fun p1=>?_) (fun p1 W1 T hF hK=>?_)
 ·refine ok_n (fun _=>by kernel_rfl) ?_
  refine ok_v (by kernel_rfl) ?_
  exact ok_nil
 replace hS:=SymF.fb hS hF [1000] [⟨(p1 0).N,#[.bool false,.string ⟨#[]⟩,.int .i64 0],25,true⟩] (by kernel_rfl) (by kernel_rfl)
 replace hG:=hF.gx
 clear hF
 have z1:=hS.fr.size
 refine wp_seq ?_
 refine wp_symQ hS hG hK (fun p2=>[.v 10 (.string s),.v 11 (.int .i64 (s.size:Int)),.v 12 (.bool false)]) (fun p2=>[(0,.bool g),(1,.string s),(2,.int .i64 x),(6,.pointer (some ⟨(p1 0).N,0,none⟩)),(7,.int .i64 0),(12,.bool false)]) (by kernel_rfl) (fun _ _=>by kernel_rfl) (fun _=>by kernel_rfl) (fun _=>by kernel_rfl) (fun p2=>?_) (fun p2 W2 T hF hK=>?_)
 ·iterate 2 refine ok_v (by kernel_rfl) ?_
  refine ok_vb (decide_eq_false (show ¬ (s.size:Int) > 65536 by omega)) (by kernel_rfl) ?_
  exact ok_nil
 replace hS:=SymF.fb hS hF [0] [⟨(p1 0).N,#[.bool false,.string ⟨#[]⟩,.int .i64 0],25,true⟩] (by kernel_rfl) (by kernel_rfl)
 replace hG:=hF.gx
 clear hF
 have z2:=hS.fr.size
 refine wp_cond_false (hK.ev 12 (by kernel_rfl) _ (by kernel_rfl)) ?_
 refine wp_skip ?_
 refine then_n ?_
 refine wp_seq ?_
 refine wp_symQ hS hG hK (fun p3=>[.v 14 (.string s),.c (some 15) (cV (.bool true)),.v 16 (.bool false)]) (fun p3=>[(0,.bool g),(1,.string s),(2,.int .i64 x),(6,.pointer (some ⟨(p1 0).N,0,none⟩)),(7,.int .i64 0),(12,.bool false),(16,.bool false)]) (by kernel_rfl) (fun _ _=>by kernel_rfl) (fun _=>by kernel_rfl) (fun _=>by kernel_rfl) (fun p3=>?_) (fun p3 W3 T hF hK=>?_)
 ·refine ok_v (by kernel_rfl) ?_
  refine ok_c (fun W cx=>as_v (unhide HA _)) (by kernel_rfl) ?_
  refine ok_v (by kernel_rfl) ?_
  exact ok_nil
 replace hS:=SymF.fb hS hF [0] [⟨(p1 0).N,#[.bool false,.string ⟨#[]⟩,.int .i64 0],25,true⟩] (by kernel_rfl) (by kernel_rfl)
 replace hG:=hF.gx
 clear hF
 have z3:=hS.fr.size
 refine wp_cond_false (hK.ev 16 (by kernel_rfl) _ (by kernel_rfl)) ?_
 refine wp_skip ?_
 refine then_n ?_
 refine wp_symQ hS hG hK (fun p4=>[.v 19 (.string s),.c (some 20) (cV (.tuple #[.int .i64 (f:Int),.int .i64 (t:Int)])),.v 18 (.tuple #[.int .i64 (f:Int),.int .i64 (t:Int)]),.v 21 (.int .i64 (f:Int)),.v 22 (.int .i64 (t:Int)),.v 8 (.int .i64 (f:Int)),.v 9 (.int .i64 (t:Int))]) (fun p4=>[(0,.bool g),(1,.string s),(2,.int .i64 x),(6,.pointer (some ⟨(p1 0).N,0,none⟩)),(7,.int .i64 0),(8,.int .i64 (f:Int)),(9,.int .i64 (t:Int)),(12,.bool false),(16,.bool false)]) (by kernel_rfl) (fun _ _=>by kernel_rfl) (fun _=>by kernel_rfl) (fun _=>by kernel_rfl) (fun p4=>?_) (fun p4 W4 T hF hK=>?_)
 ·refine ok_v (by kernel_rfl) ?_
  refine ok_c (fun W cx=>as_v (unhide HE _)) (by kernel_rfl) ?_
  iterate 5 refine ok_v (by kernel_rfl) ?_
  exact ok_nil
 replace hS:=SymF.fb hS hF [0] [⟨(p1 0).N,#[.bool false,.string ⟨#[]⟩,.int .i64 0],25,true⟩] (by kernel_rfl) (by kernel_rfl)
 replace hG:=hF.gx
 clear hF
 have z4:=hS.fr.size
 refine wp_seq ?_
 refine wp_symQ hS hG hK (fun p5=>[.v 23 (.int .i64 (f:Int)),.v 24 (.int .i64 (t:Int)),.v 25 (.bool false)]) (fun p5=>[(0,.bool g),(1,.string s),(2,.int .i64 x),(6,.pointer (some ⟨(p1 0).N,0,none⟩)),(7,.int .i64 0),(8,.int .i64 (f:Int)),(9,.int .i64 (t:Int)),(12,.bool false),(16,.bool false),(25,.bool false)]) (by kernel_rfl) (fun _ _=>by kernel_rfl) (fun _=>by kernel_rfl) (fun _=>by kernel_rfl) (fun p5=>?_) (fun p5 W5 T hF hK=>?_)
 ·iterate 2 refine ok_v (by kernel_rfl) ?_
  refine ok_vb (beq_false_of_ne (show (f:Int)≠(t:Int) by omega)) (by kernel_rfl) ?_
  exact ok_nil
 replace hS:=SymF.fb hS hF [0] [⟨(p1 0).N,#[.bool false,.string ⟨#[]⟩,.int .i64 0],25,true⟩] (by kernel_rfl) (by kernel_rfl)
 replace hG:=hF.gx
 clear hF
 have z5:=hS.fr.size
 refine wp_cond_false (hK.ev 25 (by kernel_rfl) _ (by kernel_rfl)) ?_
 refine wp_skip ?_
 refine then_n ?_
 refine wp_symQ hS hG hK (fun p6=>[.v 28 (.bool g),.v 29 (.string s),.v 30 (.int .i64 (f:Int)),.v 31 (.int .i64 (t:Int)),.v 32 (.string u),.v 33 (.string s),.v 34 (.int .i64 (s.size:Int)),.v 35 (.int .i64 (t:Int)),.v 36 (.int .i64 (z:Int)),.v 37 (.int .i64 x),.c (some 38) (cV (.tuple #[.agg #[.bool g,.string u,.int .i64 y],.int .i64 0])),.v 39 (.agg #[.bool g,.string u,.int .i64 y]),.v 40 (.int .i64 0),.p 0 0 [.bool g,.string u,.int .i64 y],.v 7 (.int .i64 0)]) (fun p6=>[(0,.bool g),(6,.pointer (some ⟨(p1 0).N,0,none⟩)),(7,.int .i64 0),(12,.bool false),(16,.bool false),(25,.bool false)]) (by kernel_rfl) (fun _ _=>by kernel_rfl) (fun _=>by kernel_rfl) (fun _=>by kernel_rfl) (fun p6=>?_) (fun p6 W6 T hF hK=>?_)
 ·iterate 4 refine ok_v (by kernel_rfl) ?_
  refine ok_vr (hsl) (by kernel_rfl) ?_
  iterate 3 refine ok_v (by kernel_rfl) ?_
  refine ok_vi ((wr64 (x:=(s.size:Int) - (t:Int)) (by omega) (by omega)).trans (by omega)) (by kernel_rfl) ?_
  refine ok_v (by kernel_rfl) ?_
  refine ok_c (fun W cx=>as_v (unhide HP _)) (by kernel_rfl) ?_
  iterate 2 refine ok_v (by kernel_rfl) ?_
  refine ok_P (by kernel_rfl) (by kernel_rfl) (by kernel_rfl) ?_
  refine ok_v (by kernel_rfl) ?_
  exact ok_nil
 replace hS:=SymF.fb hS hF [0] [⟨(p1 0).N,#[.bool g,.string u,.int .i64 y],25,true⟩] (by kernel_rfl) (by kernel_rfl)
 replace hG:=hF.gx
 clear hF
 have z6:=hS.fr.size
 refine wp_ret ?_
 exact sym_end hS hK (.tuple #[.agg #[.bool g,.string u,.int .i64 y],.int .i64 0]) [(0,0,3)] [.bool g,.string u,.int .i64 y] (by kernel_rfl) (by kernel_rfl) ⟨rfl,hS.fr⟩
theorem wrQ {x:Int} (h1:0≤x) (h2:x < 18446744073709551616):IntKind.u64.wrap x = x:=by rw [IntKind.wrap_u64]; omega
theorem wrQ8 {x:Int} (h1:0≤x) (h2:x < 256):IntKind.u8.wrap x = x:=by rw [IntKind.wrap_u8]; omega
theorem script_mul {P:Program} {r:Nat} {t:TypeId} {k:FloatKind} {x y z:Nat} (h:k.format.mul x y = some z):script P r (binOp .mul t (.float k x) (.float k y)) [] = some (.float k z,[]):=by
 simp only [binOp,Op.floatArith,h]; rw [if_neg (fun hk=>hk rfl)]; rfl
theorem script_quo {P:Program} {r:Nat} {t:TypeId} {k:FloatKind} {x y z:Nat} (h:k.format.div x y = some z):script P r (binOp .quo t (.float k x) (.float k y)) [] = some (.float k z,[]):=by
 simp only [binOp,Op.floatArith,h]; rw [if_neg (fun hk=>hk rfl)]; rfl
theorem qnum_ok (w:World) (s:ByteArray) (c nv:Nat→Nat) (hl:s.size≤19) (h2:∀ j (h:j < s.size),(s[j]'h).toNat = c j) (hv:∀ j,j < s.size→48≤c j∧c j≤57) (hb0:nv 0 = 0) (hbs:∀ j,j < s.size→nv (j+1) = nv j * 10+(c j - 48)) (hbb:∀ j,j≤s.size→nv j < 18446744073709551616) :
  Calls Tryd.prog 22 #[.string s] w fun en w'=>en = .returned (.tuple #[.int .u64 ((nv (s.size - 0):Nat):Int),.bool true])∧Below w.heap.size w w':=by
 obtain ⟨k,hkz⟩:∃ k,k = s.size:=⟨_,rfl⟩
 have hkn:k≤s.size:=by omega
 refine calls_sym Tryd.func22 rfl (by kernel_rfl) fun T hK=>?_
 replace hK:Kn T _ [(0,.string s)]:=hK
 have hS:=Fb.begin w
 have hG:GsAt [] w:=trivial
 refine wp_symQ hS hG hK (fun p1=>[.v 2 (.int .u64 0),.v 3 (.bool false)]) (fun p1=>[(0,.string s),(2,.int .u64 0),(3,.bool false)]) (by kernel_rfl) (fun _ _=>by kernel_rfl) (fun _=>by kernel_rfl) (fun _=>by kernel_rfl) (fun p1=>?_) (fun p1 W1 T hF hK=>?_)
 ·iterate 2 refine ok_v (by kernel_rfl) ?_
  exact ok_nil
 replace hS:=SymF.fb hS hF [] [] (by kernel_rfl) (by kernel_rfl)
 replace hG:=hF.gx
 clear hF
 have z1:=hS.fr.size
 refine wp_seq ?_
 refine wp_symQ hS hG hK (fun p2=>[.v 7 (.string s),.v 8 (.int .i64 (s.size:Int)),.v 9 (.bool false)]) (fun p2=>[(0,.string s),(2,.int .u64 0),(3,.bool false),(9,.bool false)]) (by kernel_rfl) (fun _ _=>by kernel_rfl) (fun _=>by kernel_rfl) (fun _=>by kernel_rfl) (fun p2=>?_) (fun p2 W2 T hF hK=>?_)
 ·iterate 2 refine ok_v (by kernel_rfl) ?_
  refine ok_vb (decide_eq_false (show ¬ (s.size:Int) > 19 by omega)) (by kernel_rfl) ?_
  exact ok_nil
 replace hS:=SymF.fb hS hF [] [] (by kernel_rfl) (by kernel_rfl)
 replace hG:=hF.gx
 clear hF
 have z2:=hS.fr.size
 refine wp_cond_false (hK.ev 9 (by kernel_rfl) _ (by kernel_rfl)) ?_
 refine wp_skip ?_
 refine then_n ?_
 refine wp_symQ hS hG hK (fun p3=>[.v 4 (.int .u64 0)]) (fun p3=>[(0,.string s),(2,.int .u64 0),(3,.bool false),(4,.int .u64 0),(9,.bool false)]) (by kernel_rfl) (fun _ _=>by kernel_rfl) (fun _=>by kernel_rfl) (fun _=>by kernel_rfl) (fun p3=>?_) (fun p3 W3 T hF hK=>?_)
 ·refine ok_v (by kernel_rfl) ?_
  exact ok_nil
 replace hS:=SymF.fb hS hF [] [] (by kernel_rfl) (by kernel_rfl)
 replace hG:=hF.gx
 clear hF
 have z3:=hS.fr.size
 refine wp_seq ?_
 refine wp_symQ hS hG hK (fun p4=>[.v 10 (.string s),.v 11 (.int .i64 (s.size:Int)),.v 12 (.int .i64 0)]) (fun p4=>[(0,.string s),(2,.int .u64 0),(3,.bool false),(4,.int .u64 0),(9,.bool false),(11,.int .i64 (s.size:Int)),(12,.int .i64 0)]) (by kernel_rfl) (fun _ _=>by kernel_rfl) (fun _=>by kernel_rfl) (fun _=>by kernel_rfl) (fun p4=>?_) (fun p4 W4 T hF hK=>?_)
 ·iterate 3 refine ok_v (by kernel_rfl) ?_
  exact ok_nil
 replace hS:=SymF.fb hS hF [] [] (by kernel_rfl) (by kernel_rfl)
 replace hG:=hF.gx
 clear hF
 have z4:=hS.fr.size
 refine wp_block ?_
 replace hK:Kn T _ [(0,.string s),(4,.int .u64 0),(11,.int .i64 (s.size:Int)),(12,.int .i64 0)]:=kn_out (ds:=[]) hK rfl rfl _ (by kernel_rfl) (by kernel_rfl)
 have h4:Value.int .u64 0 = .int .u64 ((nv (s.size - k):Nat):Int):=by rw [hkz,Nat.sub_self,hb0]; rfl
 have h12:Value.int .i64 0 = .int .i64 ((s.size - k:Nat):Int):=by rw [hkz,Nat.sub_self]; rfl
 rw [h4,h12] at hK
 clear h4 h12 hkz
 refine wp_loop_rounds (k+1) ?_
 clear z4
 induction k generalizing T W4 with
 | succ k ih=>
  have z4:=hS.fr.size
  have hj:=hbs (s.size - (k+1)) (by omega)
  have hj1:s.size - (k+1)+1 = s.size - k:=by omega
  rw [hj1] at hj
  have hv1:=hv (s.size - (k+1)) (by omega)
  have hb1:=hbb (s.size - k) (by omega)
  have hix:script Tryd.prog 0 (Instr.index 9 (.string s) (.int .i64 ((s.size - (k+1):Nat):Int))) [] = some (.int .u8 ((c (s.size - (k+1)):Nat):Int),[]):=script_index (j:=s.size - (k+1)) Tryd.under_str rfl (by omega) (h2 _ _)
  refine rounds_s ?_
  refine wp_symQ hS hG hK (fun p5=>[.v 13 (.bool true)]) (fun p5=>[(0,.string s),(4,.int .u64 ((nv (s.size - (k+1)):Nat):Int)),(11,.int .i64 (s.size:Int)),(12,.int .i64 ((s.size - (k+1):Nat):Int)),(13,.bool true)]) (by kernel_rfl) (fun _ _=>by kernel_rfl) (fun _=>by kernel_rfl) (fun _=>by kernel_rfl) (fun p5=>?_) (fun p5 W5 T hF hK=>?_)
  ·refine ok_vb (decide_eq_true (show ((s.size - (k+1):Nat):Int) < (s.size:Int) by omega)) (by kernel_rfl) ?_
   exact ok_nil
  replace hS:=SymF.fb hS hF [] [] (by kernel_rfl) (by kernel_rfl)
  replace hG:=hF.gx
  clear hF
  have z5:=hS.fr.size
  refine wp_seq ?_
  refine wp_cond_true (hK.ev 13 (by kernel_rfl) _ (by kernel_rfl)) ?_
  refine wp_skip ?_
  refine then_n ?_
  refine wp_seq ?_
  refine wp_block ?_
  refine wp_symQ hS hG hK (fun p6=>[.v 14 (.int .i64 ((s.size - (k+1):Nat):Int)),.v 5 (.int .i64 ((s.size - (k+1):Nat):Int))]) (fun p6=>[(0,.string s),(4,.int .u64 ((nv (s.size - (k+1)):Nat):Int)),(5,.int .i64 ((s.size - (k+1):Nat):Int)),(11,.int .i64 (s.size:Int)),(12,.int .i64 ((s.size - (k+1):Nat):Int)),(13,.bool true),(14,.int .i64 ((s.size - (k+1):Nat):Int))]) (by kernel_rfl) (fun _ _=>by kernel_rfl) (fun _=>by kernel_rfl) (fun _=>by kernel_rfl) (fun p6=>?_) (fun p6 W6 T hF hK=>?_)
  ·iterate 2 refine ok_v (by kernel_rfl) ?_
   exact ok_nil
  replace hS:=SymF.fb hS hF [] [] (by kernel_rfl) (by kernel_rfl)
  replace hG:=hF.gx
  clear hF
  have z6:=hS.fr.size
  refine wp_symQ hS hG hK (fun p7=>[.v 15 (.string s),.v 16 (.int .i64 ((s.size - (k+1):Nat):Int)),.v 17 (.int .u8 ((c (s.size - (k+1)):Nat):Int)),.v 6 (.int .u8 ((c (s.size - (k+1)):Nat):Int))]) (fun p7=>[(0,.string s),(4,.int .u64 ((nv (s.size - (k+1)):Nat):Int)),(5,.int .i64 ((s.size - (k+1):Nat):Int)),(6,.int .u8 ((c (s.size - (k+1)):Nat):Int)),(11,.int .i64 (s.size:Int)),(12,.int .i64 ((s.size - (k+1):Nat):Int)),(13,.bool true),(14,.int .i64 ((s.size - (k+1):Nat):Int)),(15,.string s),(16,.int .i64 ((s.size - (k+1):Nat):Int)),(17,.int .u8 ((c (s.size - (k+1)):Nat):Int))]) (by kernel_rfl) (fun _ _=>by kernel_rfl) (fun _=>by kernel_rfl) (fun _=>by kernel_rfl) (fun p7=>?_) (fun p7 W7 T hF hK=>?_)
  ·iterate 2 refine ok_v (by kernel_rfl) ?_
   refine ok_vr (hix) (by kernel_rfl) ?_
   refine ok_v (by kernel_rfl) ?_
   exact ok_nil
  replace hS:=SymF.fb hS hF [] [] (by kernel_rfl) (by kernel_rfl)
  replace hG:=hF.gx
  clear hF
  have z7:=hS.fr.size
  refine wp_seq ?_
  refine wp_symQ hS hG hK (fun p8=>[.v 18 (.int .u8 ((c (s.size - (k+1)):Nat):Int)),.v 19 (.bool false),.v 20 (.bool false),.v 21 (.int .u8 ((c (s.size - (k+1)):Nat):Int)),.v 22 (.bool false),.v 23 (.bool false)]) (fun p8=>[(0,.string s),(4,.int .u64 ((nv (s.size - (k+1)):Nat):Int)),(5,.int .i64 ((s.size - (k+1):Nat):Int)),(6,.int .u8 ((c (s.size - (k+1)):Nat):Int)),(11,.int .i64 (s.size:Int)),(12,.int .i64 ((s.size - (k+1):Nat):Int)),(13,.bool true),(14,.int .i64 ((s.size - (k+1):Nat):Int)),(15,.string s),(16,.int .i64 ((s.size - (k+1):Nat):Int)),(17,.int .u8 ((c (s.size - (k+1)):Nat):Int)),(18,.int .u8 ((c (s.size - (k+1)):Nat):Int)),(19,.bool false),(20,.bool false),(21,.int .u8 ((c (s.size - (k+1)):Nat):Int)),(22,.bool false),(23,.bool false)]) (by kernel_rfl) (fun _ _=>by kernel_rfl) (fun _=>by kernel_rfl) (fun _=>by kernel_rfl) (fun p8=>?_) (fun p8 W8 T hF hK=>?_)
  ·refine ok_v (by kernel_rfl) ?_
   refine ok_vb (decide_eq_false (show ¬ ((c (s.size - (k+1)):Nat):Int) < 48 by omega)) (by kernel_rfl) ?_
   iterate 2 refine ok_v (by kernel_rfl) ?_
   refine ok_vb (decide_eq_false (show ¬ ((c (s.size - (k+1)):Nat):Int) > 57 by omega)) (by kernel_rfl) ?_
   refine ok_v (by kernel_rfl) ?_
   exact ok_nil
  replace hS:=SymF.fb hS hF [] [] (by kernel_rfl) (by kernel_rfl)
  replace hG:=hF.gx
  clear hF
  have z8:=hS.fr.size
  refine wp_cond_false (hK.ev 23 (by kernel_rfl) _ (by kernel_rfl)) ?_
  refine wp_skip ?_
  refine then_n ?_
  refine wp_symG hS hG hK (fun p9=>[.v 24 (.int .u64 ((nv (s.size - (k+1)):Nat):Int)),.v 25 (.int .u64 (10 * ((nv (s.size - (k+1)):Nat):Int))),.v 26 (.int .u8 ((c (s.size - (k+1)):Nat):Int)),.v 27 (.int .u8 (((c (s.size - (k+1)):Nat):Int) - 48)),.v 28 (.int .u64 (((c (s.size - (k+1)):Nat):Int) - 48)),.v 29 (.int .u64 ((nv (s.size - k):Nat):Int)),.v 4 (.int .u64 ((nv (s.size - k):Nat):Int))]) (fun p9=>[(0,.string s),(4,.int .u64 ((nv (s.size - k):Nat):Int)),(5,.int .i64 ((s.size - (k+1):Nat):Int)),(6,.int .u8 ((c (s.size - (k+1)):Nat):Int)),(11,.int .i64 (s.size:Int)),(12,.int .i64 ((s.size - (k+1):Nat):Int)),(13,.bool true),(14,.int .i64 ((s.size - (k+1):Nat):Int)),(15,.string s),(16,.int .i64 ((s.size - (k+1):Nat):Int)),(17,.int .u8 ((c (s.size - (k+1)):Nat):Int)),(18,.int .u8 ((c (s.size - (k+1)):Nat):Int)),(19,.bool false),(20,.bool false),(21,.int .u8 ((c (s.size - (k+1)):Nat):Int)),(22,.bool false),(23,.bool false),(24,.int .u64 ((nv (s.size - (k+1)):Nat):Int)),(25,.int .u64 (10 * ((nv (s.size - (k+1)):Nat):Int))),(26,.int .u8 ((c (s.size - (k+1)):Nat):Int)),(27,.int .u8 (((c (s.size - (k+1)):Nat):Int) - 48)),(28,.int .u64 (((c (s.size - (k+1)):Nat):Int) - 48)),(29,.int .u64 ((nv (s.size - k):Nat):Int))]) (by kernel_rfl) (fun _ _=>by kernel_rfl) (fun _=>by kernel_rfl) (fun _=>by kernel_rfl) (fun p9=>?_) (fun p9 W9 T hF hK=>?_)
  ·refine ok_v (by kernel_rfl) ?_
   refine ok_vi (wrQ (x:=10 * ((nv (s.size - (k+1)):Nat):Int)) (by omega) (by omega)) (by kernel_rfl) ?_
   refine ok_v (by kernel_rfl) ?_
   refine ok_vi (wrQ8 (x:=((c (s.size - (k+1)):Nat):Int) - 48) (by omega) (by omega)) (by kernel_rfl) ?_
   refine ok_vi (wrQ (x:=((c (s.size - (k+1)):Nat):Int) - 48) (by omega) (by omega)) (by kernel_rfl) ?_
   refine ok_vi ((wrQ (x:=10 * ((nv (s.size - (k+1)):Nat):Int)+(((c (s.size - (k+1)):Nat):Int) - 48)) (by omega) (by omega)).trans (by omega)) (by kernel_rfl) ?_
   refine ok_v (by kernel_rfl) ?_
   exact ok_nil
  replace hS:=SymF.fb hS hF [] [] (by kernel_rfl) (by kernel_rfl)
  replace hG:=hF.gx
  clear hF
  have z9:=hS.fr.size
  refine inb_n ?_
  refine then_n ?_
  refine wp_symG hS hG hK (fun p10=>[.v 30 (.int .i64 ((s.size - k:Nat):Int)),.v 12 (.int .i64 ((s.size - k:Nat):Int))]) (fun p10=>[(0,.string s),(4,.int .u64 ((nv (s.size - k):Nat):Int)),(5,.int .i64 ((s.size - (k+1):Nat):Int)),(6,.int .u8 ((c (s.size - (k+1)):Nat):Int)),(11,.int .i64 (s.size:Int)),(12,.int .i64 ((s.size - k:Nat):Int)),(13,.bool true),(14,.int .i64 ((s.size - (k+1):Nat):Int)),(15,.string s),(16,.int .i64 ((s.size - (k+1):Nat):Int)),(17,.int .u8 ((c (s.size - (k+1)):Nat):Int)),(18,.int .u8 ((c (s.size - (k+1)):Nat):Int)),(19,.bool false),(20,.bool false),(21,.int .u8 ((c (s.size - (k+1)):Nat):Int)),(22,.bool false),(23,.bool false),(24,.int .u64 ((nv (s.size - (k+1)):Nat):Int)),(25,.int .u64 (10 * ((nv (s.size - (k+1)):Nat):Int))),(26,.int .u8 ((c (s.size - (k+1)):Nat):Int)),(27,.int .u8 (((c (s.size - (k+1)):Nat):Int) - 48)),(28,.int .u64 (((c (s.size - (k+1)):Nat):Int) - 48)),(29,.int .u64 ((nv (s.size - k):Nat):Int)),(30,.int .i64 ((s.size - k:Nat):Int))]) (by kernel_rfl) (fun _ _=>by kernel_rfl) (fun _=>by kernel_rfl) (fun _=>by kernel_rfl) (fun p10=>?_) (fun p10 W10 T hF hK=>?_)
  ·refine ok_vi ((wr64 (x:=((s.size - (k+1):Nat):Int)+1) (by omega) (by omega)).trans (by omega)) (by kernel_rfl) ?_
   refine ok_v (by kernel_rfl) ?_
   exact ok_nil
  replace hS:=SymF.fb hS hF [] [] (by kernel_rfl) (by kernel_rfl)
  replace hG:=hF.gx
  clear hF
  have z10:=hS.fr.size
  refine then_n ?_
  replace hK:Kn T _ [(0,.string s),(4,.int .u64 ((nv (s.size - k):Nat):Int)),(11,.int .i64 (s.size:Int)),(12,.int .i64 ((s.size - k:Nat):Int))]:=kn_out (ds:=[]) hK rfl rfl _ (by kernel_rfl) (by kernel_rfl)
  refine ih ?_ _ _ ?_ ?_ ?_ <;> first|assumption|omega
 | zero=>
  have z4:=hS.fr.size
  refine rounds_s ?_
  refine wp_symQ hS hG hK (fun p11=>[.v 13 (.bool false)]) (fun p11=>[(0,.string s),(4,.int .u64 ((nv (s.size - 0):Nat):Int)),(11,.int .i64 (s.size:Int)),(12,.int .i64 ((s.size - 0:Nat):Int)),(13,.bool false)]) (by kernel_rfl) (fun _ _=>by kernel_rfl) (fun _=>by kernel_rfl) (fun _=>by kernel_rfl) (fun p11=>?_) (fun p11 W11 T hF hK=>?_)
  ·refine ok_vb (decide_eq_false (show ¬ ((s.size - 0:Nat):Int) < (s.size:Int) by omega)) (by kernel_rfl) ?_
   exact ok_nil
  replace hS:=SymF.fb hS hF [] [] (by kernel_rfl) (by kernel_rfl)
  replace hG:=hF.gx
  clear hF
  have z11:=hS.fr.size
  refine wp_seq ?_
  refine wp_cond_false (hK.ev 13 (by kernel_rfl) _ (by kernel_rfl)) ?_
  refine wp_exit ?_
  refine then_x ?_
  refine then_x ?_
  refine inb_x ?_
  refine then_n ?_
  refine wp_symQ hS hG hK (fun p12=>[.v 31 (.int .u64 ((nv (s.size - 0):Nat):Int)),.v 2 (.int .u64 ((nv (s.size - 0):Nat):Int)),.v 3 (.bool true)]) (fun p12=>[(0,.string s),(2,.int .u64 ((nv (s.size - 0):Nat):Int)),(3,.bool true),(4,.int .u64 ((nv (s.size - 0):Nat):Int)),(12,.int .i64 ((s.size - 0:Nat):Int)),(13,.bool false)]) (by kernel_rfl) (fun _ _=>by kernel_rfl) (fun _=>by kernel_rfl) (fun _=>by kernel_rfl) (fun p12=>?_) (fun p12 W12 T hF hK=>?_)
  ·iterate 3 refine ok_v (by kernel_rfl) ?_
   exact ok_nil
  replace hS:=SymF.fb hS hF [] [] (by kernel_rfl) (by kernel_rfl)
  replace hG:=hF.gx
  clear hF
  have z12:=hS.fr.size
  refine wp_ret ?_
  exact sym_end hS hK (.tuple #[.int .u64 ((nv (s.size - 0):Nat):Int),.bool true]) [] [] (by kernel_rfl) (by kernel_rfl) ⟨rfl,hS.fr⟩
theorem qpow64 (w:World) (m:Nat) (pw:Nat→Nat) (hm:m≤22) (hp0:floatOfInt .f64 1 = pw 0) (hp:∀ j,j < m→FloatKind.f64.format.mul (pw j) 4621819117588971520 = some (pw (j+1))) :
  Calls Tryd.prog 29 #[.int .i64 (m:Int)] w fun en w'=>en = .returned (.float .f64 (pw (m - 0)))∧Below w.heap.size w w':=by
 obtain ⟨k,hkz⟩:∃ k,k = m:=⟨_,rfl⟩
 have hkn:k≤m:=by omega
 refine calls_sym Tryd.func29 rfl (by kernel_rfl) fun T hK=>?_
 replace hK:Kn T _ [(0,.int .i64 (m:Int))]:=hK
 have hS:=Fb.begin w
 have hG:GsAt [] w:=trivial
 refine wp_symQ hS hG hK (fun p1=>[.v 2 (.float FloatKind.f64 0)]) (fun p1=>[(0,.int .i64 (m:Int)),(2,.float FloatKind.f64 0)]) (by kernel_rfl) (fun _ _=>by kernel_rfl) (fun _=>by kernel_rfl) (fun _=>by kernel_rfl) (fun p1=>?_) (fun p1 W1 T hF hK=>?_)
 ·refine ok_v (by kernel_rfl) ?_
  exact ok_nil
 replace hS:=SymF.fb hS hF [] [] (by kernel_rfl) (by kernel_rfl)
 replace hG:=hF.gx
 clear hF
 have z1:=hS.fr.size
 refine wp_symQ hS hG hK (fun p2=>[.v 4 (.float .f64 (floatOfInt .f64 1)),.v 3 (.float .f64 (floatOfInt .f64 1))]) (fun p2=>[(0,.int .i64 (m:Int)),(2,.float FloatKind.f64 0),(3,.float .f64 (floatOfInt .f64 1))]) (by kernel_rfl) (fun _ _=>by kernel_rfl) (fun _=>by kernel_rfl) (fun _=>by kernel_rfl) (fun p2=>?_) (fun p2 W2 T hF hK=>?_)
 ·iterate 2 refine ok_v (by kernel_rfl) ?_
  exact ok_nil
 replace hS:=SymF.fb hS hF [] [] (by kernel_rfl) (by kernel_rfl)
 replace hG:=hF.gx
 clear hF
 have z2:=hS.fr.size
 refine wp_seq ?_
 refine wp_symQ hS hG hK (fun p3=>[.v 5 (.int .i64 (m:Int)),.v 6 (.int .i64 0)]) (fun p3=>[(2,.float FloatKind.f64 0),(3,.float .f64 (floatOfInt .f64 1)),(5,.int .i64 (m:Int)),(6,.int .i64 0)]) (by kernel_rfl) (fun _ _=>by kernel_rfl) (fun _=>by kernel_rfl) (fun _=>by kernel_rfl) (fun p3=>?_) (fun p3 W3 T hF hK=>?_)
 ·iterate 2 refine ok_v (by kernel_rfl) ?_
  exact ok_nil
 replace hS:=SymF.fb hS hF [] [] (by kernel_rfl) (by kernel_rfl)
 replace hG:=hF.gx
 clear hF
 have z3:=hS.fr.size
 refine wp_block ?_
 replace hK:Kn T _ [(3,.float .f64 (floatOfInt .f64 1)),(5,.int .i64 (m:Int)),(6,.int .i64 0)]:=kn_out (ds:=[]) hK rfl rfl _ (by kernel_rfl) (by kernel_rfl)
 have h3:Value.float .f64 (floatOfInt .f64 1) = .float .f64 (pw (m - k)):=by rw [hkz,Nat.sub_self,hp0]
 have h6:Value.int .i64 0 = .int .i64 ((m - k:Nat):Int):=by rw [hkz,Nat.sub_self]; rfl
 rw [h3,h6] at hK
 clear h3 h6 hkz
 refine wp_loop_rounds (k+1) ?_
 clear z3
 induction k generalizing T W3 with
 | succ k ih=>
  have z3:=hS.fr.size
  have hmul:=hp (m - (k+1)) (by omega)
  have hj1:m - (k+1)+1 = m - k:=by omega
  rw [hj1] at hmul
  refine rounds_s ?_
  refine wp_symQ hS hG hK (fun p4=>[.v 7 (.bool true)]) (fun p4=>[(3,.float .f64 (pw (m - (k+1)))),(5,.int .i64 (m:Int)),(6,.int .i64 ((m - (k+1):Nat):Int)),(7,.bool true)]) (by kernel_rfl) (fun _ _=>by kernel_rfl) (fun _=>by kernel_rfl) (fun _=>by kernel_rfl) (fun p4=>?_) (fun p4 W4 T hF hK=>?_)
  ·refine ok_vb (decide_eq_true (show ((m - (k+1):Nat):Int) < (m:Int) by omega)) (by kernel_rfl) ?_
   exact ok_nil
  replace hS:=SymF.fb hS hF [] [] (by kernel_rfl) (by kernel_rfl)
  replace hG:=hF.gx
  clear hF
  have z4:=hS.fr.size
  refine wp_seq ?_
  refine wp_cond_true (hK.ev 7 (by kernel_rfl) _ (by kernel_rfl)) ?_
  refine wp_skip ?_
  refine then_n ?_
  refine wp_seq ?_
  refine wp_block ?_
  refine wp_symG hS hG hK (fun p5=>[.v 8 (.float .f64 (pw (m - (k+1)))),.v 9 (.float .f64 (pw (m - k))),.v 3 (.float .f64 (pw (m - k)))]) (fun p5=>[(3,.float .f64 (pw (m - k))),(5,.int .i64 (m:Int)),(6,.int .i64 ((m - (k+1):Nat):Int)),(7,.bool true),(8,.float .f64 (pw (m - (k+1)))),(9,.float .f64 (pw (m - k)))]) (by kernel_rfl) (fun _ _=>by kernel_rfl) (fun _=>by kernel_rfl) (fun _=>by kernel_rfl) (fun p5=>?_) (fun p5 W5 T hF hK=>?_)
  ·refine ok_v (by kernel_rfl) ?_
   refine ok_vr (script_mul (t:=30) hmul) (by kernel_rfl) ?_
   refine ok_v (by kernel_rfl) ?_
   exact ok_nil
  replace hS:=SymF.fb hS hF [] [] (by kernel_rfl) (by kernel_rfl)
  replace hG:=hF.gx
  clear hF
  have z5:=hS.fr.size
  refine inb_n ?_
  refine then_n ?_
  refine wp_symG hS hG hK (fun p6=>[.v 10 (.int .i64 ((m - k:Nat):Int)),.v 6 (.int .i64 ((m - k:Nat):Int))]) (fun p6=>[(3,.float .f64 (pw (m - k))),(5,.int .i64 (m:Int)),(6,.int .i64 ((m - k:Nat):Int)),(7,.bool true),(8,.float .f64 (pw (m - (k+1)))),(9,.float .f64 (pw (m - k))),(10,.int .i64 ((m - k:Nat):Int))]) (by kernel_rfl) (fun _ _=>by kernel_rfl) (fun _=>by kernel_rfl) (fun _=>by kernel_rfl) (fun p6=>?_) (fun p6 W6 T hF hK=>?_)
  ·refine ok_vi ((wr64 (x:=((m - (k+1):Nat):Int)+1) (by omega) (by omega)).trans (by omega)) (by kernel_rfl) ?_
   refine ok_v (by kernel_rfl) ?_
   exact ok_nil
  replace hS:=SymF.fb hS hF [] [] (by kernel_rfl) (by kernel_rfl)
  replace hG:=hF.gx
  clear hF
  have z6:=hS.fr.size
  refine then_n ?_
  replace hK:Kn T _ [(3,.float .f64 (pw (m - k))),(5,.int .i64 (m:Int)),(6,.int .i64 ((m - k:Nat):Int))]:=kn_out (ds:=[]) hK rfl rfl _ (by kernel_rfl) (by kernel_rfl)
  refine ih ?_ _ _ ?_ ?_ ?_ <;> first|assumption|omega
 | zero=>
  have z3:=hS.fr.size
  refine rounds_s ?_
  refine wp_symQ hS hG hK (fun p7=>[.v 7 (.bool false)]) (fun p7=>[(3,.float .f64 (pw (m - 0))),(5,.int .i64 (m:Int)),(6,.int .i64 ((m - 0:Nat):Int)),(7,.bool false)]) (by kernel_rfl) (fun _ _=>by kernel_rfl) (fun _=>by kernel_rfl) (fun _=>by kernel_rfl) (fun p7=>?_) (fun p7 W7 T hF hK=>?_)
  ·refine ok_vb (decide_eq_false (show ¬ ((m - 0:Nat):Int) < (m:Int) by omega)) (by kernel_rfl) ?_
   exact ok_nil
  replace hS:=SymF.fb hS hF [] [] (by kernel_rfl) (by kernel_rfl)
  replace hG:=hF.gx
  clear hF
  have z7:=hS.fr.size
  refine wp_seq ?_
  refine wp_cond_false (hK.ev 7 (by kernel_rfl) _ (by kernel_rfl)) ?_
  refine wp_exit ?_
  refine then_x ?_
  refine then_x ?_
  refine inb_x ?_
  refine then_n ?_
  refine wp_symQ hS hG hK (fun p8=>[.v 11 (.float .f64 (pw (m - 0))),.v 2 (.float .f64 (pw (m - 0)))]) (fun p8=>[(2,.float .f64 (pw (m - 0))),(3,.float .f64 (pw (m - 0))),(6,.int .i64 ((m - 0:Nat):Int)),(7,.bool false)]) (by kernel_rfl) (fun _ _=>by kernel_rfl) (fun _=>by kernel_rfl) (fun _=>by kernel_rfl) (fun p8=>?_) (fun p8 W8 T hF hK=>?_)
  ·iterate 2 refine ok_v (by kernel_rfl) ?_
   exact ok_nil
  replace hS:=SymF.fb hS hF [] [] (by kernel_rfl) (by kernel_rfl)
  replace hG:=hF.gx
  clear hF
  have z8:=hS.fr.size
  refine wp_ret ?_
  exact sym_end hS hK (.float .f64 (pw (m - 0))) [] [] (by kernel_rfl) (by kernel_rfl) ⟨rfl,hS.fr⟩
theorem qnear64 (w:World) (n:Nat)  :
  Calls Tryd.prog 23 #[.int .u64 (n:Int)] w fun en w'=>en = .returned (.float .f64 (floatOfInt .f64 (n:Int)))∧Below w.heap.size w w':=by
 refine calls_sym Tryd.func23 rfl (by kernel_rfl) fun T hK=>?_
 replace hK:Kn T _ [(0,.int .u64 (n:Int))]:=hK
 have hS:=Fb.begin w
 have hG:GsAt [] w:=trivial
 refine wp_symQ hS hG hK (fun p1=>[.v 2 (.float FloatKind.f64 0)]) (fun p1=>[(0,.int .u64 (n:Int)),(2,.float FloatKind.f64 0)]) (by kernel_rfl) (fun _ _=>by kernel_rfl) (fun _=>by kernel_rfl) (fun _=>by kernel_rfl) (fun p1=>?_) (fun p1 W1 T hF hK=>?_)
 ·refine ok_v (by kernel_rfl) ?_
  exact ok_nil
 replace hS:=SymF.fb hS hF [] [] (by kernel_rfl) (by kernel_rfl)
 replace hG:=hF.gx
 clear hF
 have z1:=hS.fr.size
 refine wp_symQ hS hG hK (fun p2=>[.v 3 (.int .u64 (n:Int)),.v 4 (.float .f64 (floatOfInt .f64 (n:Int))),.v 2 (.float .f64 (floatOfInt .f64 (n:Int)))]) (fun p2=>[(2,.float .f64 (floatOfInt .f64 (n:Int)))]) (by kernel_rfl) (fun _ _=>by kernel_rfl) (fun _=>by kernel_rfl) (fun _=>by kernel_rfl) (fun p2=>?_) (fun p2 W2 T hF hK=>?_)
 ·iterate 3 refine ok_v (by kernel_rfl) ?_
  exact ok_nil
 replace hS:=SymF.fb hS hF [] [] (by kernel_rfl) (by kernel_rfl)
 replace hG:=hF.gx
 clear hF
 have z2:=hS.fr.size
 refine wp_ret ?_
 exact sym_end hS hK (.float .f64 (floatOfInt .f64 (n:Int))) [] [] (by kernel_rfl) (by kernel_rfl) ⟨rfl,hS.fr⟩
theorem qpow32 (w:World) (m:Nat) (pw:Nat→Nat) (hm:m≤22) (hp0:floatOfInt .f32 1 = pw 0) (hp:∀ j,j < m→FloatKind.f32.format.mul (pw j) 1092616192 = some (pw (j+1))) :
  Calls Tryd.prog 31 #[.int .i64 (m:Int)] w fun en w'=>en = .returned (.float .f32 (pw (m - 0)))∧Below w.heap.size w w':=by
 obtain ⟨k,hkz⟩:∃ k,k = m:=⟨_,rfl⟩
 have hkn:k≤m:=by omega
 refine calls_sym Tryd.func31 rfl (by kernel_rfl) fun T hK=>?_
 replace hK:Kn T _ [(0,.int .i64 (m:Int))]:=hK
 have hS:=Fb.begin w
 have hG:GsAt [] w:=trivial
 refine wp_symQ hS hG hK (fun p1=>[.v 2 (.float FloatKind.f32 0)]) (fun p1=>[(0,.int .i64 (m:Int)),(2,.float FloatKind.f32 0)]) (by kernel_rfl) (fun _ _=>by kernel_rfl) (fun _=>by kernel_rfl) (fun _=>by kernel_rfl) (fun p1=>?_) (fun p1 W1 T hF hK=>?_)
 ·refine ok_v (by kernel_rfl) ?_
  exact ok_nil
 replace hS:=SymF.fb hS hF [] [] (by kernel_rfl) (by kernel_rfl)
 replace hG:=hF.gx
 clear hF
 have z1:=hS.fr.size
 refine wp_symQ hS hG hK (fun p2=>[.v 4 (.float .f32 (floatOfInt .f32 1)),.v 3 (.float .f32 (floatOfInt .f32 1))]) (fun p2=>[(0,.int .i64 (m:Int)),(2,.float FloatKind.f32 0),(3,.float .f32 (floatOfInt .f32 1))]) (by kernel_rfl) (fun _ _=>by kernel_rfl) (fun _=>by kernel_rfl) (fun _=>by kernel_rfl) (fun p2=>?_) (fun p2 W2 T hF hK=>?_)
 ·iterate 2 refine ok_v (by kernel_rfl) ?_
  exact ok_nil
 replace hS:=SymF.fb hS hF [] [] (by kernel_rfl) (by kernel_rfl)
 replace hG:=hF.gx
 clear hF
 have z2:=hS.fr.size
 refine wp_seq ?_
 refine wp_symQ hS hG hK (fun p3=>[.v 5 (.int .i64 (m:Int)),.v 6 (.int .i64 0)]) (fun p3=>[(2,.float FloatKind.f32 0),(3,.float .f32 (floatOfInt .f32 1)),(5,.int .i64 (m:Int)),(6,.int .i64 0)]) (by kernel_rfl) (fun _ _=>by kernel_rfl) (fun _=>by kernel_rfl) (fun _=>by kernel_rfl) (fun p3=>?_) (fun p3 W3 T hF hK=>?_)
 ·iterate 2 refine ok_v (by kernel_rfl) ?_
  exact ok_nil
 replace hS:=SymF.fb hS hF [] [] (by kernel_rfl) (by kernel_rfl)
 replace hG:=hF.gx
 clear hF
 have z3:=hS.fr.size
 refine wp_block ?_
 replace hK:Kn T _ [(3,.float .f32 (floatOfInt .f32 1)),(5,.int .i64 (m:Int)),(6,.int .i64 0)]:=kn_out (ds:=[]) hK rfl rfl _ (by kernel_rfl) (by kernel_rfl)
 have h3:Value.float .f32 (floatOfInt .f32 1) = .float .f32 (pw (m - k)):=by rw [hkz,Nat.sub_self,hp0]
 have h6:Value.int .i64 0 = .int .i64 ((m - k:Nat):Int):=by rw [hkz,Nat.sub_self]; rfl
 rw [h3,h6] at hK
 clear h3 h6 hkz
 refine wp_loop_rounds (k+1) ?_
 clear z3
 induction k generalizing T W3 with
 | succ k ih=>
  have z3:=hS.fr.size
  have hmul:=hp (m - (k+1)) (by omega)
  have hj1:m - (k+1)+1 = m - k:=by omega
  rw [hj1] at hmul
  refine rounds_s ?_
  refine wp_symQ hS hG hK (fun p4=>[.v 7 (.bool true)]) (fun p4=>[(3,.float .f32 (pw (m - (k+1)))),(5,.int .i64 (m:Int)),(6,.int .i64 ((m - (k+1):Nat):Int)),(7,.bool true)]) (by kernel_rfl) (fun _ _=>by kernel_rfl) (fun _=>by kernel_rfl) (fun _=>by kernel_rfl) (fun p4=>?_) (fun p4 W4 T hF hK=>?_)
  ·refine ok_vb (decide_eq_true (show ((m - (k+1):Nat):Int) < (m:Int) by omega)) (by kernel_rfl) ?_
   exact ok_nil
  replace hS:=SymF.fb hS hF [] [] (by kernel_rfl) (by kernel_rfl)
  replace hG:=hF.gx
  clear hF
  have z4:=hS.fr.size
  refine wp_seq ?_
  refine wp_cond_true (hK.ev 7 (by kernel_rfl) _ (by kernel_rfl)) ?_
  refine wp_skip ?_
  refine then_n ?_
  refine wp_seq ?_
  refine wp_block ?_
  refine wp_symG hS hG hK (fun p5=>[.v 8 (.float .f32 (pw (m - (k+1)))),.v 9 (.float .f32 (pw (m - k))),.v 3 (.float .f32 (pw (m - k)))]) (fun p5=>[(3,.float .f32 (pw (m - k))),(5,.int .i64 (m:Int)),(6,.int .i64 ((m - (k+1):Nat):Int)),(7,.bool true),(8,.float .f32 (pw (m - (k+1)))),(9,.float .f32 (pw (m - k)))]) (by kernel_rfl) (fun _ _=>by kernel_rfl) (fun _=>by kernel_rfl) (fun _=>by kernel_rfl) (fun p5=>?_) (fun p5 W5 T hF hK=>?_)
  ·refine ok_v (by kernel_rfl) ?_
   refine ok_vr (script_mul (t:=33) hmul) (by kernel_rfl) ?_
   refine ok_v (by kernel_rfl) ?_
   exact ok_nil
  replace hS:=SymF.fb hS hF [] [] (by kernel_rfl) (by kernel_rfl)
  replace hG:=hF.gx
  clear hF
  have z5:=hS.fr.size
  refine inb_n ?_
  refine then_n ?_
  refine wp_symG hS hG hK (fun p6=>[.v 10 (.int .i64 ((m - k:Nat):Int)),.v 6 (.int .i64 ((m - k:Nat):Int))]) (fun p6=>[(3,.float .f32 (pw (m - k))),(5,.int .i64 (m:Int)),(6,.int .i64 ((m - k:Nat):Int)),(7,.bool true),(8,.float .f32 (pw (m - (k+1)))),(9,.float .f32 (pw (m - k))),(10,.int .i64 ((m - k:Nat):Int))]) (by kernel_rfl) (fun _ _=>by kernel_rfl) (fun _=>by kernel_rfl) (fun _=>by kernel_rfl) (fun p6=>?_) (fun p6 W6 T hF hK=>?_)
  ·refine ok_vi ((wr64 (x:=((m - (k+1):Nat):Int)+1) (by omega) (by omega)).trans (by omega)) (by kernel_rfl) ?_
   refine ok_v (by kernel_rfl) ?_
   exact ok_nil
  replace hS:=SymF.fb hS hF [] [] (by kernel_rfl) (by kernel_rfl)
  replace hG:=hF.gx
  clear hF
  have z6:=hS.fr.size
  refine then_n ?_
  replace hK:Kn T _ [(3,.float .f32 (pw (m - k))),(5,.int .i64 (m:Int)),(6,.int .i64 ((m - k:Nat):Int))]:=kn_out (ds:=[]) hK rfl rfl _ (by kernel_rfl) (by kernel_rfl)
  refine ih ?_ _ _ ?_ ?_ ?_ <;> first|assumption|omega
 | zero=>
  have z3:=hS.fr.size
  refine rounds_s ?_
  refine wp_symQ hS hG hK (fun p7=>[.v 7 (.bool false)]) (fun p7=>[(3,.float .f32 (pw (m - 0))),(5,.int .i64 (m:Int)),(6,.int .i64 ((m - 0:Nat):Int)),(7,.bool false)]) (by kernel_rfl) (fun _ _=>by kernel_rfl) (fun _=>by kernel_rfl) (fun _=>by kernel_rfl) (fun p7=>?_) (fun p7 W7 T hF hK=>?_)
  ·refine ok_vb (decide_eq_false (show ¬ ((m - 0:Nat):Int) < (m:Int) by omega)) (by kernel_rfl) ?_
   exact ok_nil
  replace hS:=SymF.fb hS hF [] [] (by kernel_rfl) (by kernel_rfl)
  replace hG:=hF.gx
  clear hF
  have z7:=hS.fr.size
  refine wp_seq ?_
  refine wp_cond_false (hK.ev 7 (by kernel_rfl) _ (by kernel_rfl)) ?_
  refine wp_exit ?_
  refine then_x ?_
  refine then_x ?_
  refine inb_x ?_
  refine then_n ?_
  refine wp_symQ hS hG hK (fun p8=>[.v 11 (.float .f32 (pw (m - 0))),.v 2 (.float .f32 (pw (m - 0)))]) (fun p8=>[(2,.float .f32 (pw (m - 0))),(3,.float .f32 (pw (m - 0))),(6,.int .i64 ((m - 0:Nat):Int)),(7,.bool false)]) (by kernel_rfl) (fun _ _=>by kernel_rfl) (fun _=>by kernel_rfl) (fun _=>by kernel_rfl) (fun p8=>?_) (fun p8 W8 T hF hK=>?_)
  ·iterate 2 refine ok_v (by kernel_rfl) ?_
   exact ok_nil
  replace hS:=SymF.fb hS hF [] [] (by kernel_rfl) (by kernel_rfl)
  replace hG:=hF.gx
  clear hF
  have z8:=hS.fr.size
  refine wp_ret ?_
  exact sym_end hS hK (.float .f32 (pw (m - 0))) [] [] (by kernel_rfl) (by kernel_rfl) ⟨rfl,hS.fr⟩
theorem qnear32 (w:World) (n:Nat)  :
  Calls Tryd.prog 30 #[.int .u64 (n:Int)] w fun en w'=>en = .returned (.float .f32 (floatOfInt .f32 (n:Int)))∧Below w.heap.size w w':=by
 refine calls_sym Tryd.func30 rfl (by kernel_rfl) fun T hK=>?_
 replace hK:Kn T _ [(0,.int .u64 (n:Int))]:=hK
 have hS:=Fb.begin w
 have hG:GsAt [] w:=trivial
 refine wp_symQ hS hG hK (fun p1=>[.v 2 (.float FloatKind.f32 0)]) (fun p1=>[(0,.int .u64 (n:Int)),(2,.float FloatKind.f32 0)]) (by kernel_rfl) (fun _ _=>by kernel_rfl) (fun _=>by kernel_rfl) (fun _=>by kernel_rfl) (fun p1=>?_) (fun p1 W1 T hF hK=>?_)
 ·refine ok_v (by kernel_rfl) ?_
  exact ok_nil
 replace hS:=SymF.fb hS hF [] [] (by kernel_rfl) (by kernel_rfl)
 replace hG:=hF.gx
 clear hF
 have z1:=hS.fr.size
 refine wp_symQ hS hG hK (fun p2=>[.v 3 (.int .u64 (n:Int)),.v 4 (.float .f32 (floatOfInt .f32 (n:Int))),.v 2 (.float .f32 (floatOfInt .f32 (n:Int)))]) (fun p2=>[(2,.float .f32 (floatOfInt .f32 (n:Int)))]) (by kernel_rfl) (fun _ _=>by kernel_rfl) (fun _=>by kernel_rfl) (fun _=>by kernel_rfl) (fun p2=>?_) (fun p2 W2 T hF hK=>?_)
 ·iterate 3 refine ok_v (by kernel_rfl) ?_
  exact ok_nil
 replace hS:=SymF.fb hS hF [] [] (by kernel_rfl) (by kernel_rfl)
 replace hG:=hF.gx
 clear hF
 have z2:=hS.fr.size
 refine wp_ret ?_
 exact sym_end hS hK (.float .f32 (floatOfInt .f32 (n:Int))) [] [] (by kernel_rfl) (by kernel_rfl) ⟨rfl,hS.fr⟩
theorem qrai_0t (w:World) (wh tn n:Nat) (hn:n≤wh) :
  Calls Tryd.prog 33 #[.agg #[.int .u64 (wh:Int),.int .i64 (tn:Int)],.int .u64 (n:Int),.int .i64 0] w fun en w'=>en = .returned (.tuple #[.int .u64 (n:Int),.bool true])∧Below w.heap.size w w':=by
 refine calls_sym Tryd.func33 rfl (by kernel_rfl) fun T hK=>?_
 replace hK:Kn T _ [(0,.agg #[.int .u64 (wh:Int),.int .i64 (tn:Int)]),(1,.int .u64 (n:Int)),(2,.int .i64 0)]:=hK
 have hS:=Fb.begin w
 have hG:GsAt [] w:=trivial
 refine wp_symQ hS hG hK (fun p1=>[.n 3 #[.int .u64 (wh:Int),.int .i64 (tn:Int)] 48,.v 6 (.int .u64 0),.v 7 (.bool false)]) (fun p1=>[(1,.int .u64 (n:Int)),(2,.int .i64 0),(3,.pointer (some ⟨(p1 0).N,0,none⟩)),(6,.int .u64 0),(7,.bool false)]) (by kernel_rfl) (fun _ _=>by kernel_rfl) (fun _=>by kernel_rfl) (fun _=>by kernel_rfl) (fun p1=>?_) (fun p1 W1 T hF hK=>?_)
 ·refine ok_n (fun _=>by kernel_rfl) ?_
  iterate 2 refine ok_v (by kernel_rfl) ?_
  exact ok_nil
 replace hS:=SymF.fb hS hF [1000] [⟨(p1 0).N,#[.int .u64 (wh:Int),.int .i64 (tn:Int)],48,true⟩] (by kernel_rfl) (by kernel_rfl)
 replace hG:=hF.gx
 clear hF
 have z1:=hS.fr.size
 refine wp_seq ?_
 refine wp_symQ hS hG hK (fun p2=>[.v 8 (.int .i64 0),.v 9 (.int .i64 0)]) (fun p2=>[(1,.int .u64 (n:Int)),(3,.pointer (some ⟨(p1 0).N,0,none⟩)),(6,.int .u64 0),(7,.bool false),(8,.int .i64 0),(9,.int .i64 0)]) (by kernel_rfl) (fun _ _=>by kernel_rfl) (fun _=>by kernel_rfl) (fun _=>by kernel_rfl) (fun p2=>?_) (fun p2 W2 T hF hK=>?_)
 ·iterate 2 refine ok_v (by kernel_rfl) ?_
  exact ok_nil
 replace hS:=SymF.fb hS hF [0] [⟨(p1 0).N,#[.int .u64 (wh:Int),.int .i64 (tn:Int)],48,true⟩] (by kernel_rfl) (by kernel_rfl)
 replace hG:=hF.gx
 clear hF
 have z2:=hS.fr.size
 refine wp_block ?_
 refine wp_loop_rounds 1 ?_
 refine rounds_s ?_
 refine wp_symQ hS hG hK (fun p3=>[.v 10 (.bool false)]) (fun p3=>[(1,.int .u64 (n:Int)),(3,.pointer (some ⟨(p1 0).N,0,none⟩)),(6,.int .u64 0),(7,.bool false),(8,.int .i64 0),(9,.int .i64 0),(10,.bool false)]) (by kernel_rfl) (fun _ _=>by kernel_rfl) (fun _=>by kernel_rfl) (fun _=>by kernel_rfl) (fun p3=>?_) (fun p3 W3 T hF hK=>?_)
 ·refine ok_v (by kernel_rfl) ?_
  exact ok_nil
 replace hS:=SymF.fb hS hF [0] [⟨(p1 0).N,#[.int .u64 (wh:Int),.int .i64 (tn:Int)],48,true⟩] (by kernel_rfl) (by kernel_rfl)
 replace hG:=hF.gx
 clear hF
 have z3:=hS.fr.size
 refine wp_seq ?_
 refine wp_cond_false (hK.ev 10 (by kernel_rfl) _ (by kernel_rfl)) ?_
 refine wp_exit ?_
 refine then_x ?_
 refine then_x ?_
 refine inb_x ?_
 refine then_n ?_
 refine wp_symQ hS hG hK (fun p4=>[.v 19 (.int .u64 (n:Int)),.v 20 (.int .u64 (n:Int)),.v 21 (.pointer (some ⟨(p1 0).N,0,none⟩)),.l 22 (.int .u64 (wh:Int)) 0 0,.v 23 (.bool true),.v 6 (.int .u64 (n:Int)),.v 7 (.bool true)]) (fun p4=>[(1,.int .u64 (n:Int)),(3,.pointer (some ⟨(p1 0).N,0,none⟩)),(6,.int .u64 (n:Int)),(7,.bool true),(9,.int .i64 0),(10,.bool false)]) (by kernel_rfl) (fun _ _=>by kernel_rfl) (fun _=>by kernel_rfl) (fun _=>by kernel_rfl) (fun p4=>?_) (fun p4 W4 T hF hK=>?_)
 ·iterate 3 refine ok_v (by kernel_rfl) ?_
  refine ok_L (by kernel_rfl) (by kernel_rfl) (by kernel_rfl) ?_
  refine ok_vb (decide_eq_true (show (n:Int)≤(wh:Int) by omega)) (by kernel_rfl) ?_
  iterate 2 refine ok_v (by kernel_rfl) ?_
  exact ok_nil
 replace hS:=SymF.fb hS hF [0] [⟨(p1 0).N,#[.int .u64 (wh:Int),.int .i64 (tn:Int)],48,true⟩] (by kernel_rfl) (by kernel_rfl)
 replace hG:=hF.gx
 clear hF
 have z4:=hS.fr.size
 refine wp_ret ?_
 exact sym_end hS hK (.tuple #[.int .u64 (n:Int),.bool true]) [] [] (by kernel_rfl) (by kernel_rfl) ⟨rfl,hS.fr⟩
theorem isN_t (w:World) (g:Bool) (s:ByteArray) (x:Int) (hz:s.size = 0) :
  Calls Tryd.prog 40 #[.agg #[.bool g,.string s,.int .i64 x]] w fun en w'=>en = .returned (.bool true)∧Below w.heap.size w w':=by
 refine calls_sym Tryd.func40 rfl (by kernel_rfl) fun T hK=>?_
 replace hK:Kn T _ [(0,.agg #[.bool g,.string s,.int .i64 x])]:=hK
 have hS:=Fb.begin w
 have hG:GsAt [] w:=trivial
 refine wp_symQ hS hG hK (fun p1=>[.n 1 #[.bool g,.string s,.int .i64 x] 25,.v 2 (.bool false)]) (fun p1=>[(1,.pointer (some ⟨(p1 0).N,0,none⟩)),(2,.bool false)]) (by kernel_rfl) (fun _ _=>by kernel_rfl) (fun _=>by kernel_rfl) (fun _=>by kernel_rfl) (fun p1=>?_) (fun p1 W1 T hF hK=>?_)
 ·refine ok_n (fun _=>by kernel_rfl) ?_
  refine ok_v (by kernel_rfl) ?_
  exact ok_nil
 replace hS:=SymF.fb hS hF [1000] [⟨(p1 0).N,#[.bool g,.string s,.int .i64 x],25,true⟩] (by kernel_rfl) (by kernel_rfl)
 replace hG:=hF.gx
 clear hF
 have z1:=hS.fr.size
 refine wp_symQ hS hG hK (fun p2=>[.v 3 (.pointer (some ⟨(p1 0).N,1,none⟩)),.l 4 (.string s) 0 1,.v 5 (.int .i64 (s.size:Int)),.v 6 (.bool true),.v 2 (.bool true)]) (fun p2=>[(2,.bool true)]) (by kernel_rfl) (fun _ _=>by kernel_rfl) (fun _=>by kernel_rfl) (fun _=>by kernel_rfl) (fun p2=>?_) (fun p2 W2 T hF hK=>?_)
 ·refine ok_v (by kernel_rfl) ?_
  refine ok_L (by kernel_rfl) (by kernel_rfl) (by kernel_rfl) ?_
  refine ok_v (by kernel_rfl) ?_
  refine ok_vb (beq_iff_eq.2 (show (s.size:Int) = 0 by omega)) (by kernel_rfl) ?_
  refine ok_v (by kernel_rfl) ?_
  exact ok_nil
 replace hS:=SymF.fb hS hF [] [] (by kernel_rfl) (by kernel_rfl)
 replace hG:=hF.gx
 clear hF
 have z2:=hS.fr.size
 refine wp_ret ?_
 exact sym_end hS hK (.bool true) [] [] (by kernel_rfl) (by kernel_rfl) ⟨rfl,hS.fr⟩
theorem isN_f (w:World) (g:Bool) (s:ByteArray) (x:Int) (hz:s.size≠0) :
  Calls Tryd.prog 40 #[.agg #[.bool g,.string s,.int .i64 x]] w fun en w'=>en = .returned (.bool false)∧Below w.heap.size w w':=by
 refine calls_sym Tryd.func40 rfl (by kernel_rfl) fun T hK=>?_
 replace hK:Kn T _ [(0,.agg #[.bool g,.string s,.int .i64 x])]:=hK
 have hS:=Fb.begin w
 have hG:GsAt [] w:=trivial
 refine wp_symQ hS hG hK (fun p1=>[.n 1 #[.bool g,.string s,.int .i64 x] 25,.v 2 (.bool false)]) (fun p1=>[(1,.pointer (some ⟨(p1 0).N,0,none⟩)),(2,.bool false)]) (by kernel_rfl) (fun _ _=>by kernel_rfl) (fun _=>by kernel_rfl) (fun _=>by kernel_rfl) (fun p1=>?_) (fun p1 W1 T hF hK=>?_)
 ·refine ok_n (fun _=>by kernel_rfl) ?_
  refine ok_v (by kernel_rfl) ?_
  exact ok_nil
 replace hS:=SymF.fb hS hF [1000] [⟨(p1 0).N,#[.bool g,.string s,.int .i64 x],25,true⟩] (by kernel_rfl) (by kernel_rfl)
 replace hG:=hF.gx
 clear hF
 have z1:=hS.fr.size
 refine wp_symQ hS hG hK (fun p2=>[.v 3 (.pointer (some ⟨(p1 0).N,1,none⟩)),.l 4 (.string s) 0 1,.v 5 (.int .i64 (s.size:Int)),.v 6 (.bool false),.v 2 (.bool false)]) (fun p2=>[(2,.bool false)]) (by kernel_rfl) (fun _ _=>by kernel_rfl) (fun _=>by kernel_rfl) (fun _=>by kernel_rfl) (fun p2=>?_) (fun p2 W2 T hF hK=>?_)
 ·refine ok_v (by kernel_rfl) ?_
  refine ok_L (by kernel_rfl) (by kernel_rfl) (by kernel_rfl) ?_
  refine ok_v (by kernel_rfl) ?_
  refine ok_vb (beq_false_of_ne (show (s.size:Int)≠0 by omega)) (by kernel_rfl) ?_
  refine ok_v (by kernel_rfl) ?_
  exact ok_nil
 replace hS:=SymF.fb hS hF [] [] (by kernel_rfl) (by kernel_rfl)
 replace hG:=hF.gx
 clear hF
 have z2:=hS.fr.size
 refine wp_ret ?_
 exact sym_end hS hK (.bool false) [] [] (by kernel_rfl) (by kernel_rfl) ⟨rfl,hS.fr⟩
theorem bey_in (w:World) (x:Int) (h0:-1073741824≤x) (h:x≤1073741824) :
  Calls Tryd.prog 41 #[.int .i64 x] w fun en w'=>en = .returned (.bool false)∧Below w.heap.size w w':=by
 refine calls_sym Tryd.func41 rfl (by kernel_rfl) fun T hK=>?_
 replace hK:Kn T _ [(0,.int .i64 x)]:=hK
 have hS:=Fb.begin w
 have hG:GsAt [] w:=trivial
 refine wp_symQ hS hG hK (fun p1=>[.v 2 (.bool false)]) (fun p1=>[(0,.int .i64 x),(2,.bool false)]) (by kernel_rfl) (fun _ _=>by kernel_rfl) (fun _=>by kernel_rfl) (fun _=>by kernel_rfl) (fun p1=>?_) (fun p1 W1 T hF hK=>?_)
 ·refine ok_v (by kernel_rfl) ?_
  exact ok_nil
 replace hS:=SymF.fb hS hF [] [] (by kernel_rfl) (by kernel_rfl)
 replace hG:=hF.gx
 clear hF
 have z1:=hS.fr.size
 refine wp_symQ hS hG hK (fun p2=>[.v 3 (.int .i64 x),.v 4 (.bool false),.v 5 (.bool false),.v 6 (.int .i64 x),.v 7 (.bool false),.v 8 (.bool false),.v 2 (.bool false)]) (fun p2=>[(2,.bool false)]) (by kernel_rfl) (fun _ _=>by kernel_rfl) (fun _=>by kernel_rfl) (fun _=>by kernel_rfl) (fun p2=>?_) (fun p2 W2 T hF hK=>?_)
 ·refine ok_v (by kernel_rfl) ?_
  refine ok_vb (decide_eq_false (show ¬ x < -1073741824 by omega)) (by kernel_rfl) ?_
  iterate 2 refine ok_v (by kernel_rfl) ?_
  refine ok_vb (decide_eq_false (show ¬ x > 1073741824 by omega)) (by kernel_rfl) ?_
  iterate 2 refine ok_v (by kernel_rfl) ?_
  exact ok_nil
 replace hS:=SymF.fb hS hF [] [] (by kernel_rfl) (by kernel_rfl)
 replace hG:=hF.gx
 clear hF
 have z2:=hS.fr.size
 refine wp_ret ?_
 exact sym_end hS hK (.bool false) [] [] (by kernel_rfl) (by kernel_rfl) ⟨rfl,hS.fr⟩
theorem dck_z0 (w:World) (g:Bool) (s:ByteArray) (x:Int) (_hm:s.size≤65536) (hz:s.size = 0) (hx:x = 0) :
  Calls Tryd.prog 32 #[.agg #[.bool g,.string s,.int .i64 x]] w fun en w'=>en = .returned (.int .i64 0)∧Below w.heap.size w w':=by
 refine calls_sym Tryd.func32 rfl (by kernel_rfl) fun T hK=>?_
 replace hK:Kn T _ [(0,.agg #[.bool g,.string s,.int .i64 x])]:=hK
 have hS:=Fb.begin w
 have hG:GsAt [] w:=trivial
 refine wp_symQ hS hG hK (fun p1=>[.n 1 #[.bool g,.string s,.int .i64 x] 25,.v 2 (.int .i64 0)]) (fun p1=>[(1,.pointer (some ⟨(p1 0).N,0,none⟩)),(2,.int .i64 0)]) (by kernel_rfl) (fun _ _=>by kernel_rfl) (fun _=>by kernel_rfl) (fun _=>by kernel_rfl) (fun p1=>?_) (fun p1 W1 T hF hK=>?_)
 ·refine ok_n (fun _=>by kernel_rfl) ?_
  refine ok_v (by kernel_rfl) ?_
  exact ok_nil
 replace hS:=SymF.fb hS hF [1000] [⟨(p1 0).N,#[.bool g,.string s,.int .i64 x],25,true⟩] (by kernel_rfl) (by kernel_rfl)
 replace hG:=hF.gx
 clear hF
 have z1:=hS.fr.size
 refine wp_seq ?_
 refine wp_symQ hS hG hK (fun p2=>[.v 5 (.pointer (some ⟨(p1 0).N,1,none⟩)),.l 6 (.string s) 0 1,.v 7 (.int .i64 (s.size:Int)),.v 8 (.bool false)]) (fun p2=>[(1,.pointer (some ⟨(p1 0).N,0,none⟩)),(2,.int .i64 0),(8,.bool false)]) (by kernel_rfl) (fun _ _=>by kernel_rfl) (fun _=>by kernel_rfl) (fun _=>by kernel_rfl) (fun p2=>?_) (fun p2 W2 T hF hK=>?_)
 ·refine ok_v (by kernel_rfl) ?_
  refine ok_L (by kernel_rfl) (by kernel_rfl) (by kernel_rfl) ?_
  refine ok_v (by kernel_rfl) ?_
  refine ok_vb (decide_eq_false (show ¬ (s.size:Int) > 65536 by omega)) (by kernel_rfl) ?_
  exact ok_nil
 replace hS:=SymF.fb hS hF [0] [⟨(p1 0).N,#[.bool g,.string s,.int .i64 x],25,true⟩] (by kernel_rfl) (by kernel_rfl)
 replace hG:=hF.gx
 clear hF
 have z2:=hS.fr.size
 refine wp_cond_false (hK.ev 8 (by kernel_rfl) _ (by kernel_rfl)) ?_
 refine wp_skip ?_
 refine then_n ?_
 refine wp_seq ?_
 refine wp_symQ hS hG hK (fun p3=>[.l 9 (.agg #[.bool g,.string s,.int .i64 x]) 0 0,.c (some 10) (cV (.bool true))]) (fun p3=>[(1,.pointer (some ⟨(p1 0).N,0,none⟩)),(2,.int .i64 0),(8,.bool false),(10,.bool true)]) (by kernel_rfl) (fun _ _=>by kernel_rfl) (fun _=>by kernel_rfl) (fun _=>by kernel_rfl) (fun p3=>?_) (fun p3 W3 T hF hK=>?_)
 ·refine ok_L (by kernel_rfl) (by kernel_rfl) (by kernel_rfl) ?_
  refine ok_c (fun W cx=>as_v (isN_t _ g s x hz)) (by kernel_rfl) ?_
  exact ok_nil
 replace hS:=SymF.fb hS hF [0] [⟨(p1 0).N,#[.bool g,.string s,.int .i64 x],25,true⟩] (by kernel_rfl) (by kernel_rfl)
 replace hG:=hF.gx
 clear hF
 have z3:=hS.fr.size
 refine wp_cond_true (hK.ev 10 (by kernel_rfl) _ (by kernel_rfl)) ?_
 refine wp_seq ?_
 refine wp_symQ hS hG hK (fun p4=>[.v 11 (.pointer (some ⟨(p1 0).N,2,none⟩)),.l 12 (.int .i64 x) 0 2,.v 13 (.bool false)]) (fun p4=>[(1,.pointer (some ⟨(p1 0).N,0,none⟩)),(2,.int .i64 0),(8,.bool false),(10,.bool true),(13,.bool false)]) (by kernel_rfl) (fun _ _=>by kernel_rfl) (fun _=>by kernel_rfl) (fun _=>by kernel_rfl) (fun p4=>?_) (fun p4 W4 T hF hK=>?_)
 ·refine ok_v (by kernel_rfl) ?_
  refine ok_L (by kernel_rfl) (by kernel_rfl) (by kernel_rfl) ?_
  refine ok_vb ((bne_eq_false_iff_eq.2 (show x = 0 by omega))) (by kernel_rfl) ?_
  exact ok_nil
 replace hS:=SymF.fb hS hF [0] [⟨(p1 0).N,#[.bool g,.string s,.int .i64 x],25,true⟩] (by kernel_rfl) (by kernel_rfl)
 replace hG:=hF.gx
 clear hF
 have z4:=hS.fr.size
 refine wp_cond_false (hK.ev 13 (by kernel_rfl) _ (by kernel_rfl)) ?_
 refine wp_skip ?_
 refine then_n ?_
 refine wp_symQ hS hG hK (fun p5=>[.v 2 (.int .i64 0)]) (fun p5=>[(1,.pointer (some ⟨(p1 0).N,0,none⟩)),(2,.int .i64 0),(8,.bool false),(10,.bool true),(13,.bool false)]) (by kernel_rfl) (fun _ _=>by kernel_rfl) (fun _=>by kernel_rfl) (fun _=>by kernel_rfl) (fun p5=>?_) (fun p5 W5 T hF hK=>?_)
 ·refine ok_v (by kernel_rfl) ?_
  exact ok_nil
 replace hS:=SymF.fb hS hF [0] [⟨(p1 0).N,#[.bool g,.string s,.int .i64 x],25,true⟩] (by kernel_rfl) (by kernel_rfl)
 replace hG:=hF.gx
 clear hF
 have z5:=hS.fr.size
 refine wp_ret ?_
 refine then_r ?_
 exact sym_end hS hK (.int .i64 0) [] [] (by kernel_rfl) (by kernel_rfl) ⟨rfl,hS.fr⟩
theorem dck_ok (w:World) (g:Bool) (s:ByteArray) (x:Int) (f t:Nat) (hm:s.size≤65536) (hz:s.size≠0) (HE:Hid (∀ W:World,Calls Tryd.prog 14 #[.string s] W fun e W'=>e = .returned (.tuple #[.int .i64 (f:Int),.int .i64 (t:Int)])∧Below W.heap.size W W')) (hf:f = 0) (ht:s.size≤t) (HA:Hid (∀ W:World,Calls Tryd.prog 13 #[.string s] W fun e W'=>e = .returned (.bool true)∧Below W.heap.size W W')) (HB:Hid (∀ W:World,Calls Tryd.prog 41 #[.int .i64 x] W fun e W'=>e = .returned (.bool false)∧Below W.heap.size W W')) :
  Calls Tryd.prog 32 #[.agg #[.bool g,.string s,.int .i64 x]] w fun en w'=>en = .returned (.int .i64 0)∧Below w.heap.size w w':=by
 refine calls_sym Tryd.func32 rfl (by kernel_rfl) fun T hK=>?_
 replace hK:Kn T _ [(0,.agg #[.bool g,.string s,.int .i64 x])]:=hK
 have hS:=Fb.begin w
 have hG:GsAt [] w:=trivial
 refine wp_symQ hS hG hK (fun p1=>[.n 1 #[.bool g,.string s,.int .i64 x] 25,.v 2 (.int .i64 0)]) (fun p1=>[(1,.pointer (some ⟨(p1 0).N,0,none⟩)),(2,.int .i64 0)]) (by kernel_rfl) (fun _ _=>by kernel_rfl) (fun _=>by kernel_rfl) (fun _=>by kernel_rfl) (fun p1=>?_) (fun p1 W1 T hF hK=>?_)
 ·refine ok_n (fun _=>by kernel_rfl) ?_
  refine ok_v (by kernel_rfl) ?_
  exact ok_nil
 replace hS:=SymF.fb hS hF [1000] [⟨(p1 0).N,#[.bool g,.string s,.int .i64 x],25,true⟩] (by kernel_rfl) (by kernel_rfl)
 replace hG:=hF.gx
 clear hF
 have z1:=hS.fr.size
 refine wp_seq ?_
 refine wp_symQ hS hG hK (fun p2=>[.v 5 (.pointer (some ⟨(p1 0).N,1,none⟩)),.l 6 (.string s) 0 1,.v 7 (.int .i64 (s.size:Int)),.v 8 (.bool false)]) (fun p2=>[(1,.pointer (some ⟨(p1 0).N,0,none⟩)),(2,.int .i64 0),(8,.bool false)]) (by kernel_rfl) (fun _ _=>by kernel_rfl) (fun _=>by kernel_rfl) (fun _=>by kernel_rfl) (fun p2=>?_) (fun p2 W2 T hF hK=>?_)
 ·refine ok_v (by kernel_rfl) ?_
  refine ok_L (by kernel_rfl) (by kernel_rfl) (by kernel_rfl) ?_
  refine ok_v (by kernel_rfl) ?_
  refine ok_vb (decide_eq_false (show ¬ (s.size:Int) > 65536 by omega)) (by kernel_rfl) ?_
  exact ok_nil
 replace hS:=SymF.fb hS hF [0] [⟨(p1 0).N,#[.bool g,.string s,.int .i64 x],25,true⟩] (by kernel_rfl) (by kernel_rfl)
 replace hG:=hF.gx
 clear hF
 have z2:=hS.fr.size
 refine wp_cond_false (hK.ev 8 (by kernel_rfl) _ (by kernel_rfl)) ?_
 refine wp_skip ?_
 refine then_n ?_
 refine wp_seq ?_
 refine wp_symQ hS hG hK (fun p3=>[.l 9 (.agg #[.bool g,.string s,.int .i64 x]) 0 0,.c (some 10) (cV (.bool false))]) (fun p3=>[(1,.pointer (some ⟨(p1 0).N,0,none⟩)),(2,.int .i64 0),(8,.bool false),(10,.bool false)]) (by kernel_rfl) (fun _ _=>by kernel_rfl) (fun _=>by kernel_rfl) (fun _=>by kernel_rfl) (fun p3=>?_) (fun p3 W3 T hF hK=>?_)
 ·refine ok_L (by kernel_rfl) (by kernel_rfl) (by kernel_rfl) ?_
  refine ok_c (fun W cx=>as_v (isN_f _ g s x hz)) (by kernel_rfl) ?_
  exact ok_nil
 replace hS:=SymF.fb hS hF [0] [⟨(p1 0).N,#[.bool g,.string s,.int .i64 x],25,true⟩] (by kernel_rfl) (by kernel_rfl)
 replace hG:=hF.gx
 clear hF
 have z3:=hS.fr.size
 refine wp_cond_false (hK.ev 10 (by kernel_rfl) _ (by kernel_rfl)) ?_
 refine wp_skip ?_
 refine then_n ?_
 refine wp_symQ hS hG hK (fun p4=>[.v 15 (.pointer (some ⟨(p1 0).N,1,none⟩)),.l 16 (.string s) 0 1,.c (some 17) (cV (.tuple #[.int .i64 (f:Int),.int .i64 (t:Int)])),.v 14 (.tuple #[.int .i64 (f:Int),.int .i64 (t:Int)]),.v 18 (.int .i64 (f:Int)),.v 19 (.int .i64 (t:Int)),.v 3 (.int .i64 (f:Int)),.v 4 (.int .i64 (t:Int))]) (fun p4=>[(1,.pointer (some ⟨(p1 0).N,0,none⟩)),(2,.int .i64 0),(3,.int .i64 (f:Int)),(4,.int .i64 (t:Int)),(8,.bool false),(10,.bool false)]) (by kernel_rfl) (fun _ _=>by kernel_rfl) (fun _=>by kernel_rfl) (fun _=>by kernel_rfl) (fun p4=>?_) (fun p4 W4 T hF hK=>?_)
 ·refine ok_v (by kernel_rfl) ?_
  refine ok_L (by kernel_rfl) (by kernel_rfl) (by kernel_rfl) ?_
  refine ok_c (fun W cx=>as_v (unhide HE _)) (by kernel_rfl) ?_
  iterate 5 refine ok_v (by kernel_rfl) ?_
  exact ok_nil
 replace hS:=SymF.fb hS hF [0] [⟨(p1 0).N,#[.bool g,.string s,.int .i64 x],25,true⟩] (by kernel_rfl) (by kernel_rfl)
 replace hG:=hF.gx
 clear hF
 have z4:=hS.fr.size
 refine wp_seq ?_
 refine wp_symQ hS hG hK (fun p5=>[.v 20 (.int .i64 (f:Int)),.v 21 (.bool false),.v 22 (.bool false),.v 23 (.int .i64 (t:Int)),.v 24 (.pointer (some ⟨(p1 0).N,1,none⟩)),.l 25 (.string s) 0 1,.v 26 (.int .i64 (s.size:Int)),.v 27 (.bool false),.v 28 (.bool false),.v 29 (.bool false),.v 30 (.pointer (some ⟨(p1 0).N,1,none⟩)),.l 31 (.string s) 0 1,.c (some 32) (cV (.bool true)),.v 33 (.bool false),.v 34 (.bool false),.v 35 (.bool false),.v 36 (.pointer (some ⟨(p1 0).N,2,none⟩)),.l 37 (.int .i64 x) 0 2,.c (some 38) (cV (.bool false)),.v 39 (.bool false)]) (fun p5=>[(1,.pointer (some ⟨(p1 0).N,0,none⟩)),(2,.int .i64 0),(8,.bool false),(10,.bool false),(39,.bool false)]) (by kernel_rfl) (fun _ _=>by kernel_rfl) (fun _=>by kernel_rfl) (fun _=>by kernel_rfl) (fun p5=>?_) (fun p5 W5 T hF hK=>?_)
 ·refine ok_v (by kernel_rfl) ?_
  refine ok_vb (decide_eq_false (show ¬ (f:Int) > 0 by omega)) (by kernel_rfl) ?_
  iterate 3 refine ok_v (by kernel_rfl) ?_
  refine ok_L (by kernel_rfl) (by kernel_rfl) (by kernel_rfl) ?_
  refine ok_v (by kernel_rfl) ?_
  refine ok_vb (decide_eq_false (show ¬ (t:Int) < (s.size:Int) by omega)) (by kernel_rfl) ?_
  iterate 3 refine ok_v (by kernel_rfl) ?_
  refine ok_L (by kernel_rfl) (by kernel_rfl) (by kernel_rfl) ?_
  refine ok_c (fun W cx=>as_v (unhide HA _)) (by kernel_rfl) ?_
  iterate 4 refine ok_v (by kernel_rfl) ?_
  refine ok_L (by kernel_rfl) (by kernel_rfl) (by kernel_rfl) ?_
  refine ok_c (fun W cx=>as_v (unhide HB _)) (by kernel_rfl) ?_
  refine ok_v (by kernel_rfl) ?_
  exact ok_nil
 replace hS:=SymF.fb hS hF [0] [⟨(p1 0).N,#[.bool g,.string s,.int .i64 x],25,true⟩] (by kernel_rfl) (by kernel_rfl)
 replace hG:=hF.gx
 clear hF
 have z5:=hS.fr.size
 refine wp_cond_false (hK.ev 39 (by kernel_rfl) _ (by kernel_rfl)) ?_
 refine wp_skip ?_
 refine then_n ?_
 refine wp_symQ hS hG hK (fun p6=>[.v 2 (.int .i64 0)]) (fun p6=>[(1,.pointer (some ⟨(p1 0).N,0,none⟩)),(2,.int .i64 0),(8,.bool false),(10,.bool false),(39,.bool false)]) (by kernel_rfl) (fun _ _=>by kernel_rfl) (fun _=>by kernel_rfl) (fun _=>by kernel_rfl) (fun p6=>?_) (fun p6 W6 T hF hK=>?_)
 ·refine ok_v (by kernel_rfl) ?_
  exact ok_nil
 replace hS:=SymF.fb hS hF [0] [⟨(p1 0).N,#[.bool g,.string s,.int .i64 x],25,true⟩] (by kernel_rfl) (by kernel_rfl)
 replace hG:=hF.gx
 clear hF
 have z6:=hS.fr.size
 refine wp_ret ?_
 exact sym_end hS hK (.int .i64 0) [] [] (by kernel_rfl) (by kernel_rfl) ⟨rfl,hS.fr⟩
end Go.Proofs.YtohjmjlfmloiaaaDoor
