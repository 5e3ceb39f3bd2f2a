/- Of what DecSumsRow stands on: DcMakeW DcMakesLaw. -/
import Derived.Test.YtpaoacehbomdmaaPag
import Derived.Test.YtpaoacehbomdmaaPah
import Derived.Test.YtpaoacehbomdmaaPai
import Derived.ChangeKeysEq
namespace Go.Proofs.Ytpaoacehbomdmaa
open Go.RowKit
set_option maxHeartbeats 2000000
set_option maxRecDepth 20000
theorem Try.under_str:Try.prog.underlying 9 = some .string:=by kernel_rfl
theorem copied_any (w:World) (g:Bool) (s:ByteArray) (x:Int) (hs:s.size≤281474976710656) :
  Calls Try.prog 28 #[.agg #[.bool g,.string s,.int .i64 x]] w fun en w'=>en = .returned (.agg #[.bool g,.string s,.int .i64 x])∧Below w.heap.size w w':=by
 refine calls_sym Try.func28 rfl (by kernel_rfl) fun T hK=>?_
 replace hK:Kn T _ [(0,.agg #[.bool g,.string s,.int .i64 x])]:=hK
 have hS:=Fb.begin w
 have hG:GsAt [] w:=trivial
 refine wp_symQ hS hG hK (fun p1=>[.n 1 #[.bool g,.string s,.int .i64 x] 23,.n 2 #[.bool false,.string ⟨#[]⟩,.int .i64 0] 23]) (fun p1=>[(1,.pointer (some ⟨(p1 0).N,0,none⟩)),(2,.pointer (some ⟨(p1 1).N,0,none⟩))]) (by kernel_rfl) (fun _ _=>by kernel_rfl) (fun _=>by kernel_rfl) (fun _=>by kernel_rfl) (fun p1=>?_) (fun p1 W1 T hF hK=>?_)
 ·iterate 2 refine ok_n (fun _=>by kernel_rfl) ?_
  exact ok_nil
 replace hS:=SymF.fb hS hF [1000,1001] [⟨(p1 0).N,#[.bool g,.string s,.int .i64 x],23,true⟩,⟨(p1 1).N,#[.bool false,.string ⟨#[]⟩,.int .i64 0],23,true⟩] (by kernel_rfl) (by kernel_rfl)
 replace hG:=hF.gx
 clear hF
 have z1:=hS.fr.size
 refine wp_symQ hS hG hK (fun p2=>[.v 3 (.pointer (some ⟨(p1 0).N,1,none⟩)),.l 4 (.string s) 0 1,.c (some 5) (cV (.string s)),.v 6 (.pointer (some ⟨(p1 0).N,1,none⟩)),.p 0 1 [.string s]]) (fun p2=>[(1,.pointer (some ⟨(p1 0).N,0,none⟩)),(2,.pointer (some ⟨(p1 1).N,0,none⟩))]) (by kernel_rfl) (fun _ _=>by kernel_rfl) (fun _=>by kernel_rfl) (fun _=>by kernel_rfl) (fun p2=>?_) (fun p2 W2 T hF hK=>?_)
 ·refine ok_v (by kernel_rfl) ?_
  refine ok_L (by kernel_rfl) (by kernel_rfl) (by kernel_rfl) ?_
  refine ok_c (fun W cx=>as_v (sclone_any s _ hs)) (by kernel_rfl) ?_
  refine ok_v (by kernel_rfl) ?_
  refine ok_P (by kernel_rfl) (by kernel_rfl) (by kernel_rfl) ?_
  exact ok_nil
 replace hS:=SymF.fb hS hF [0,1] [⟨(p1 0).N,#[.bool g,.string s,.int .i64 x],23,true⟩,⟨(p1 1).N,#[.bool false,.string ⟨#[]⟩,.int .i64 0],23,true⟩] (by kernel_rfl) (by kernel_rfl)
 replace hG:=hF.gx
 clear hF
 have z2:=hS.fr.size
 refine wp_symQ hS hG hK (fun p3=>[.l 7 (.agg #[.bool g,.string s,.int .i64 x]) 0 0,.p 1 0 [.bool g,.string s,.int .i64 x]]) (fun p3=>[(2,.pointer (some ⟨(p1 1).N,0,none⟩))]) (by kernel_rfl) (fun _ _=>by kernel_rfl) (fun _=>by kernel_rfl) (fun _=>by kernel_rfl) (fun p3=>?_) (fun p3 W3 T hF hK=>?_)
 ·refine ok_L (by kernel_rfl) (by kernel_rfl) (by kernel_rfl) ?_
  refine ok_P (by kernel_rfl) (by kernel_rfl) (by kernel_rfl) ?_
  exact ok_nil
 replace hS:=SymF.fb hS hF [1] [⟨(p1 1).N,#[.bool g,.string s,.int .i64 x],23,true⟩] (by kernel_rfl) (by kernel_rfl)
 replace hG:=hF.gx
 clear hF
 have z3:=hS.fr.size
 refine wp_ret ?_
 exact sym_end hS hK (.agg #[.bool g,.string s,.int .i64 x]) [(0,0,3)] [.bool g,.string s,.int .i64 x] (by kernel_rfl) (by kernel_rfl) ⟨rfl,hS.fr⟩
theorem placed_over (w:World) (g:Bool) (s:ByteArray) (z:Nat) (x:Int) (hz:z≤65536) (hx:1073741824 < x+(z:Int)) :
  Calls Try.prog 33 #[.bool g,.string s,.int .i64 (z:Int),.int .i64 x] w fun en w'=>en = .returned (.tuple #[.agg #[.bool false,.string ⟨#[]⟩,.int .i64 0],.int .i64 4])∧Below w.heap.size w w':=by
 refine calls_sym Try.func33 rfl (by kernel_rfl) fun T hK=>?_
 replace hK:Kn T _ [(0,.bool g),(1,.string s),(2,.int .i64 (z:Int)),(3,.int .i64 x)]:=hK
 have hS:=Fb.begin w
 have hG:GsAt [] w:=trivial
 refine wp_symQ hS hG hK (fun p1=>[.n 8 #[.bool false,.string ⟨#[]⟩,.int .i64 0] 23,.v 9 (.int .i64 0)]) (fun p1=>[(0,.bool g),(1,.string s),(2,.int .i64 (z:Int)),(3,.int .i64 x),(8,.pointer (some ⟨(p1 0).N,0,none⟩)),(9,.int .i64 0)]) (by kernel_rfl) (fun _ _=>by kernel_rfl) (fun _=>by kernel_rfl) (fun _=>by kernel_rfl) (fun p1=>?_) (fun p1 W1 T hF hK=>?_)
 ·refine ok_n (fun _=>by kernel_rfl) ?_
  refine ok_v (by kernel_rfl) ?_
  exact ok_nil
 replace hS:=SymF.fb hS hF [1000] [⟨(p1 0).N,#[.bool false,.string ⟨#[]⟩,.int .i64 0],23,true⟩] (by kernel_rfl) (by kernel_rfl)
 replace hG:=hF.gx
 clear hF
 have z1:=hS.fr.size
 refine wp_seq ?_
 refine wp_symQ hS hG hK (fun p2=>[.v 10 (.int .i64 x),.v 11 (.int .i64 (z:Int)),.v 12 (.int .i64 (1073741824 - (z:Int))),.v 13 (.bool true),.v 14 (.bool true),.k (some 15),.k (some 16),.k (some 17),.k (some 18),.v 19 (.bool true)]) (fun p2=>[(0,.bool g),(1,.string s),(2,.int .i64 (z:Int)),(3,.int .i64 x),(8,.pointer (some ⟨(p1 0).N,0,none⟩)),(9,.int .i64 0),(19,.bool true)]) (by kernel_rfl) (fun _ _=>by kernel_rfl) (fun _=>by kernel_rfl) (fun _=>by kernel_rfl) (fun p2=>?_) (fun p2 W2 T hF hK=>?_)
 ·iterate 2 refine ok_v (by kernel_rfl) ?_
  refine ok_vi (wr64 (x:=1073741824 - (z:Int)) (by omega) (by omega)) (by kernel_rfl) ?_
  refine ok_vb (decide_eq_true (show x > 1073741824 - (z:Int) by omega)) (by kernel_rfl) ?_
  refine ok_v (by kernel_rfl) ?_
  iterate 4 refine ok_K (by kernel_rfl) ?_
  refine ok_v (by kernel_rfl) ?_
  exact ok_nil
 replace hS:=SymF.fb hS hF [0] [⟨(p1 0).N,#[.bool false,.string ⟨#[]⟩,.int .i64 0],23,true⟩] (by kernel_rfl) (by kernel_rfl)
 replace hG:=hF.gx
 clear hF
 have z2:=hS.fr.size
 refine wp_cond_true (hK.ev 19 (by kernel_rfl) _ (by kernel_rfl)) ?_
 refine wp_symQ hS hG hK (fun p3=>[.v 20 (.agg #[.bool false,.string ⟨#[]⟩,.int .i64 0]),.p 0 0 [.bool false,.string ⟨#[]⟩,.int .i64 0],.v 9 (.int .i64 4)]) (fun p3=>[(0,.bool g),(1,.string s),(2,.int .i64 (z:Int)),(3,.int .i64 x),(8,.pointer (some ⟨(p1 0).N,0,none⟩)),(9,.int .i64 4),(19,.bool true)]) (by kernel_rfl) (fun _ _=>by kernel_rfl) (fun _=>by kernel_rfl) (fun _=>by kernel_rfl) (fun p3=>?_) (fun p3 W3 T hF hK=>?_)
 ·refine ok_v (by kernel_rfl) ?_
  refine ok_P (by kernel_rfl) (by kernel_rfl) (by kernel_rfl) ?_
  refine ok_v (by kernel_rfl) ?_
  exact ok_nil
 replace hS:=SymF.fb hS hF [0] [⟨(p1 0).N,#[.bool false,.string ⟨#[]⟩,.int .i64 0],23,true⟩] (by kernel_rfl) (by kernel_rfl)
 replace hG:=hF.gx
 clear hF
 have z3:=hS.fr.size
 refine wp_ret ?_
 refine then_r ?_
 exact sym_end hS hK (.tuple #[.agg #[.bool false,.string ⟨#[]⟩,.int .i64 0],.int .i64 4]) [(0,0,3)] [.bool false,.string ⟨#[]⟩,.int .i64 0] (by kernel_rfl) (by kernel_rfl) ⟨rfl,hS.fr⟩
theorem placed_under (w:World) (g:Bool) (s:ByteArray) (z:Nat) (x:Int) (hz:z≤65536) (hx:x+(z:Int) < -1073741824) :
  Calls Try.prog 33 #[.bool g,.string s,.int .i64 (z:Int),.int .i64 x] w fun en w'=>en = .returned (.tuple #[.agg #[.bool false,.string ⟨#[]⟩,.int .i64 0],.int .i64 4])∧Below w.heap.size w w':=by
 refine calls_sym Try.func33 rfl (by kernel_rfl) fun T hK=>?_
 replace hK:Kn T _ [(0,.bool g),(1,.string s),(2,.int .i64 (z:Int)),(3,.int .i64 x)]:=hK
 have hS:=Fb.begin w
 have hG:GsAt [] w:=trivial
 refine wp_symQ hS hG hK (fun p1=>[.n 8 #[.bool false,.string ⟨#[]⟩,.int .i64 0] 23,.v 9 (.int .i64 0)]) (fun p1=>[(0,.bool g),(1,.string s),(2,.int .i64 (z:Int)),(3,.int .i64 x),(8,.pointer (some ⟨(p1 0).N,0,none⟩)),(9,.int .i64 0)]) (by kernel_rfl) (fun _ _=>by kernel_rfl) (fun _=>by kernel_rfl) (fun _=>by kernel_rfl) (fun p1=>?_) (fun p1 W1 T hF hK=>?_)
 ·refine ok_n (fun _=>by kernel_rfl) ?_
  refine ok_v (by kernel_rfl) ?_
  exact ok_nil
 replace hS:=SymF.fb hS hF [1000] [⟨(p1 0).N,#[.bool false,.string ⟨#[]⟩,.int .i64 0],23,true⟩] (by kernel_rfl) (by kernel_rfl)
 replace hG:=hF.gx
 clear hF
 have z1:=hS.fr.size
 refine wp_seq ?_
 refine wp_symQ hS hG hK (fun p2=>[.v 10 (.int .i64 x),.v 11 (.int .i64 (z:Int)),.v 12 (.int .i64 (1073741824 - (z:Int))),.v 13 (.bool false),.v 14 (.bool false),.v 15 (.int .i64 x),.v 16 (.int .i64 (z:Int)),.v 17 (.int .i64 (-1073741824 - (z:Int))),.v 18 (.bool true),.v 19 (.bool true)]) (fun p2=>[(0,.bool g),(1,.string s),(2,.int .i64 (z:Int)),(3,.int .i64 x),(8,.pointer (some ⟨(p1 0).N,0,none⟩)),(9,.int .i64 0),(19,.bool true)]) (by kernel_rfl) (fun _ _=>by kernel_rfl) (fun _=>by kernel_rfl) (fun _=>by kernel_rfl) (fun p2=>?_) (fun p2 W2 T hF hK=>?_)
 ·iterate 2 refine ok_v (by kernel_rfl) ?_
  refine ok_vi (wr64 (x:=1073741824 - (z:Int)) (by omega) (by omega)) (by kernel_rfl) ?_
  refine ok_vb (decide_eq_false (show ¬ x > 1073741824 - (z:Int) by omega)) (by kernel_rfl) ?_
  iterate 3 refine ok_v (by kernel_rfl) ?_
  refine ok_vi (wr64 (x:=-1073741824 - (z:Int)) (by omega) (by omega)) (by kernel_rfl) ?_
  refine ok_vb (decide_eq_true (show x < -1073741824 - (z:Int) by omega)) (by kernel_rfl) ?_
  refine ok_v (by kernel_rfl) ?_
  exact ok_nil
 replace hS:=SymF.fb hS hF [0] [⟨(p1 0).N,#[.bool false,.string ⟨#[]⟩,.int .i64 0],23,true⟩] (by kernel_rfl) (by kernel_rfl)
 replace hG:=hF.gx
 clear hF
 have z2:=hS.fr.size
 refine wp_cond_true (hK.ev 19 (by kernel_rfl) _ (by kernel_rfl)) ?_
 refine wp_symQ hS hG hK (fun p3=>[.v 20 (.agg #[.bool false,.string ⟨#[]⟩,.int .i64 0]),.p 0 0 [.bool false,.string ⟨#[]⟩,.int .i64 0],.v 9 (.int .i64 4)]) (fun p3=>[(0,.bool g),(1,.string s),(2,.int .i64 (z:Int)),(3,.int .i64 x),(8,.pointer (some ⟨(p1 0).N,0,none⟩)),(9,.int .i64 4),(19,.bool true)]) (by kernel_rfl) (fun _ _=>by kernel_rfl) (fun _=>by kernel_rfl) (fun _=>by kernel_rfl) (fun p3=>?_) (fun p3 W3 T hF hK=>?_)
 ·refine ok_v (by kernel_rfl) ?_
  refine ok_P (by kernel_rfl) (by kernel_rfl) (by kernel_rfl) ?_
  refine ok_v (by kernel_rfl) ?_
  exact ok_nil
 replace hS:=SymF.fb hS hF [0] [⟨(p1 0).N,#[.bool false,.string ⟨#[]⟩,.int .i64 0],23,true⟩] (by kernel_rfl) (by kernel_rfl)
 replace hG:=hF.gx
 clear hF
 have z3:=hS.fr.size
 refine wp_ret ?_
 refine then_r ?_
 exact sym_end hS hK (.tuple #[.agg #[.bool false,.string ⟨#[]⟩,.int .i64 0],.int .i64 4]) [(0,0,3)] [.bool false,.string ⟨#[]⟩,.int .i64 0] (by kernel_rfl) (by kernel_rfl) ⟨rfl,hS.fr⟩
theorem placed_ok (w:World) (g:Bool) (s:ByteArray) (z:Nat) (x:Int) (y:Int) (hz:z≤65536) (hs:s.size≤281474976710656) (hy:(z:Int)+x = y) (h1:-1073741824≤y) (h2:y≤1073741824) :
  Calls Try.prog 33 #[.bool g,.string s,.int .i64 (z:Int),.int .i64 x] w fun en w'=>en = .returned (.tuple #[.agg #[.bool g,.string s,.int .i64 y],.int .i64 0])∧Below w.heap.size w w':=by
 refine calls_sym Try.func33 rfl (by kernel_rfl) fun T hK=>?_
 replace hK:Kn T _ [(0,.bool g),(1,.string s),(2,.int .i64 (z:Int)),(3,.int .i64 x)]:=hK
 have hS:=Fb.begin w
 have hG:GsAt [] w:=trivial
 refine wp_symQ hS hG hK (fun p1=>[.n 8 #[.bool false,.string ⟨#[]⟩,.int .i64 0] 23,.v 9 (.int .i64 0)]) (fun p1=>[(0,.bool g),(1,.string s),(2,.int .i64 (z:Int)),(3,.int .i64 x),(8,.pointer (some ⟨(p1 0).N,0,none⟩)),(9,.int .i64 0)]) (by kernel_rfl) (fun _ _=>by kernel_rfl) (fun _=>by kernel_rfl) (fun _=>by kernel_rfl) (fun p1=>?_) (fun p1 W1 T hF hK=>?_)
 ·refine ok_n (fun _=>by kernel_rfl) ?_
  refine ok_v (by kernel_rfl) ?_
  exact ok_nil
 replace hS:=SymF.fb hS hF [1000] [⟨(p1 0).N,#[.bool false,.string ⟨#[]⟩,.int .i64 0],23,true⟩] (by kernel_rfl) (by kernel_rfl)
 replace hG:=hF.gx
 clear hF
 have z1:=hS.fr.size
 refine wp_seq ?_
 refine wp_symQ hS hG hK (fun p2=>[.v 10 (.int .i64 x),.v 11 (.int .i64 (z:Int)),.v 12 (.int .i64 (1073741824 - (z:Int))),.v 13 (.bool false),.v 14 (.bool false),.v 15 (.int .i64 x),.v 16 (.int .i64 (z:Int)),.v 17 (.int .i64 (-1073741824 - (z:Int))),.v 18 (.bool false),.v 19 (.bool false)]) (fun p2=>[(0,.bool g),(1,.string s),(2,.int .i64 (z:Int)),(3,.int .i64 x),(8,.pointer (some ⟨(p1 0).N,0,none⟩)),(9,.int .i64 0),(19,.bool false)]) (by kernel_rfl) (fun _ _=>by kernel_rfl) (fun _=>by kernel_rfl) (fun _=>by kernel_rfl) (fun p2=>?_) (fun p2 W2 T hF hK=>?_)
 ·iterate 2 refine ok_v (by kernel_rfl) ?_
  refine ok_vi (wr64 (x:=1073741824 - (z:Int)) (by omega) (by omega)) (by kernel_rfl) ?_
  refine ok_vb (decide_eq_false (show ¬ x > 1073741824 - (z:Int) by omega)) (by kernel_rfl) ?_
  iterate 3 refine ok_v (by kernel_rfl) ?_
  refine ok_vi (wr64 (x:=-1073741824 - (z:Int)) (by omega) (by omega)) (by kernel_rfl) ?_
  refine ok_vb (decide_eq_false (show ¬ x < -1073741824 - (z:Int) by omega)) (by kernel_rfl) ?_
  refine ok_v (by kernel_rfl) ?_
  exact ok_nil
 replace hS:=SymF.fb hS hF [0] [⟨(p1 0).N,#[.bool false,.string ⟨#[]⟩,.int .i64 0],23,true⟩] (by kernel_rfl) (by kernel_rfl)
 replace hG:=hF.gx
 clear hF
 have z2:=hS.fr.size
 refine wp_cond_false (hK.ev 19 (by kernel_rfl) _ (by kernel_rfl)) ?_
 refine wp_skip ?_
 refine then_n ?_
 refine wp_symQ hS hG hK (fun p3=>[.v 21 (.bool g),.v 22 (.string s),.v 23 (.int .i64 (z:Int)),.v 24 (.int .i64 x),.v 25 (.int .i64 y),.v 26 (.agg #[.bool g,.string s,.int .i64 y]),.c (some 27) (cV (.agg #[.bool g,.string s,.int .i64 y])),.p 0 0 [.bool g,.string s,.int .i64 y],.v 9 (.int .i64 0)]) (fun p3=>[(8,.pointer (some ⟨(p1 0).N,0,none⟩)),(9,.int .i64 0),(19,.bool false)]) (by kernel_rfl) (fun _ _=>by kernel_rfl) (fun _=>by kernel_rfl) (fun _=>by kernel_rfl) (fun p3=>?_) (fun p3 W3 T hF hK=>?_)
 ·iterate 4 refine ok_v (by kernel_rfl) ?_
  refine ok_vi ((wr64 (x:=(z:Int)+x) (by omega) (by omega)).trans hy) (by kernel_rfl) ?_
  refine ok_v (by kernel_rfl) ?_
  refine ok_c (fun W cx=>as_v (copied_any _ g s y hs)) (by kernel_rfl) ?_
  refine ok_P (by kernel_rfl) (by kernel_rfl) (by kernel_rfl) ?_
  refine ok_v (by kernel_rfl) ?_
  exact ok_nil
 replace hS:=SymF.fb hS hF [0] [⟨(p1 0).N,#[.bool g,.string s,.int .i64 y],23,true⟩] (by kernel_rfl) (by kernel_rfl)
 replace hG:=hF.gx
 clear hF
 have z3:=hS.fr.size
 refine wp_ret ?_
 exact sym_end hS hK (.tuple #[.agg #[.bool g,.string s,.int .i64 y],.int .i64 0]) [(0,0,3)] [.bool g,.string s,.int .i64 y] (by kernel_rfl) (by kernel_rfl) ⟨rfl,hS.fr⟩
theorem make_long (w:World) (g:Bool) (s:ByteArray) (x:Int) (hm:65536 < s.size) :
  Calls Try.prog 11 #[.bool g,.string s,.int .i64 x] w fun en w'=>en = .returned (.tuple #[.agg #[.bool false,.string ⟨#[]⟩,.int .i64 0],.int .i64 4])∧Below w.heap.size w w':=by
 refine calls_sym Try.func11 rfl (by kernel_rfl) fun T hK=>?_
 replace hK:Kn T _ [(0,.bool g),(1,.string s),(2,.int .i64 x)]:=hK
 have hS:=Fb.begin w
 have hG:GsAt [] w:=trivial
 refine wp_symQ hS hG hK (fun p1=>[.n 6 #[.bool false,.string ⟨#[]⟩,.int .i64 0] 23,.v 7 (.int .i64 0)]) (fun p1=>[(0,.bool g),(1,.string s),(2,.int .i64 x),(6,.pointer (some ⟨(p1 0).N,0,none⟩)),(7,.int .i64 0)]) (by kernel_rfl) (fun _ _=>by kernel_rfl) (fun _=>by kernel_rfl) (fun _=>by kernel_rfl) (fun p1=>?_) (fun p1 W1 T hF hK=>?_)
 ·refine ok_n (fun _=>by kernel_rfl) ?_
  refine ok_v (by kernel_rfl) ?_
  exact ok_nil
 replace hS:=SymF.fb hS hF [1000] [⟨(p1 0).N,#[.bool false,.string ⟨#[]⟩,.int .i64 0],23,true⟩] (by kernel_rfl) (by kernel_rfl)
 replace hG:=hF.gx
 clear hF
 have z1:=hS.fr.size
 refine wp_seq ?_
 refine wp_symQ hS hG hK (fun p2=>[.v 10 (.string s),.v 11 (.int .i64 (s.size:Int)),.v 12 (.bool true)]) (fun p2=>[(0,.bool g),(1,.string s),(2,.int .i64 x),(6,.pointer (some ⟨(p1 0).N,0,none⟩)),(7,.int .i64 0),(12,.bool true)]) (by kernel_rfl) (fun _ _=>by kernel_rfl) (fun _=>by kernel_rfl) (fun _=>by kernel_rfl) (fun p2=>?_) (fun p2 W2 T hF hK=>?_)
 ·iterate 2 refine ok_v (by kernel_rfl) ?_
  refine ok_vb (decide_eq_true (show (s.size:Int) > 65536 by omega)) (by kernel_rfl) ?_
  exact ok_nil
 replace hS:=SymF.fb hS hF [0] [⟨(p1 0).N,#[.bool false,.string ⟨#[]⟩,.int .i64 0],23,true⟩] (by kernel_rfl) (by kernel_rfl)
 replace hG:=hF.gx
 clear hF
 have z2:=hS.fr.size
 refine wp_cond_true (hK.ev 12 (by kernel_rfl) _ (by kernel_rfl)) ?_
 refine wp_symQ hS hG hK (fun p3=>[.v 13 (.agg #[.bool false,.string ⟨#[]⟩,.int .i64 0]),.p 0 0 [.bool false,.string ⟨#[]⟩,.int .i64 0],.v 7 (.int .i64 4)]) (fun p3=>[(0,.bool g),(1,.string s),(2,.int .i64 x),(6,.pointer (some ⟨(p1 0).N,0,none⟩)),(7,.int .i64 4),(12,.bool true)]) (by kernel_rfl) (fun _ _=>by kernel_rfl) (fun _=>by kernel_rfl) (fun _=>by kernel_rfl) (fun p3=>?_) (fun p3 W3 T hF hK=>?_)
 ·refine ok_v (by kernel_rfl) ?_
  refine ok_P (by kernel_rfl) (by kernel_rfl) (by kernel_rfl) ?_
  refine ok_v (by kernel_rfl) ?_
  exact ok_nil
 replace hS:=SymF.fb hS hF [0] [⟨(p1 0).N,#[.bool false,.string ⟨#[]⟩,.int .i64 0],23,true⟩] (by kernel_rfl) (by kernel_rfl)
 replace hG:=hF.gx
 clear hF
 have z3:=hS.fr.size
 refine wp_ret ?_
 refine then_r ?_
 exact sym_end hS hK (.tuple #[.agg #[.bool false,.string ⟨#[]⟩,.int .i64 0],.int .i64 4]) [(0,0,3)] [.bool false,.string ⟨#[]⟩,.int .i64 0] (by kernel_rfl) (by kernel_rfl) ⟨rfl,hS.fr⟩
theorem make_zero (w:World) (g:Bool) (s:ByteArray) (x:Int) (f t:Nat) (hm:s.size≤65536) (HA:Hid (∀ W:World,Calls Try.prog 34 #[.string s] W fun e W'=>e = .returned (.bool true)∧Below W.heap.size W W')) (HE:Hid (∀ W:World,Calls Try.prog 35 #[.string s] W fun e W'=>e = .returned (.tuple #[.int .i64 (f:Int),.int .i64 (t:Int)])∧Below W.heap.size W W')) (hft:f = t) :
  Calls Try.prog 11 #[.bool g,.string s,.int .i64 x] w fun en w'=>en = .returned (.tuple #[.agg #[.bool g,.string ⟨#[]⟩,.int .i64 0],.int .i64 0])∧Below w.heap.size w w':=by
 refine calls_sym Try.func11 rfl (by kernel_rfl) fun T hK=>?_
 replace hK:Kn T _ [(0,.bool g),(1,.string s),(2,.int .i64 x)]:=hK
 have hS:=Fb.begin w
 have hG:GsAt [] w:=trivial
 refine wp_symQ hS hG hK (fun p1=>[.n 6 #[.bool false,.string ⟨#[]⟩,.int .i64 0] 23,.v 7 (.int .i64 0)]) (fun p1=>[(0,.bool g),(1,.string s),(2,.int .i64 x),(6,.pointer (some ⟨(p1 0).N,0,none⟩)),(7,.int .i64 0)]) (by kernel_rfl) (fun _ _=>by kernel_rfl) (fun _=>by kernel_rfl) (fun _=>by kernel_rfl) (fun p1=>?_) (fun p1 W1 T hF hK=>?_)
 ·refine ok_n (fun _=>by kernel_rfl) ?_
  refine ok_v (by kernel_rfl) ?_
  exact ok_nil
 replace hS:=SymF.fb hS hF [1000] [⟨(p1 0).N,#[.bool false,.string ⟨#[]⟩,.int .i64 0],23,true⟩] (by kernel_rfl) (by kernel_rfl)
 replace hG:=hF.gx
 clear hF
 have z1:=hS.fr.size
 refine wp_seq ?_
 refine wp_symQ hS hG hK (fun p2=>[.v 10 (.string s),.v 11 (.int .i64 (s.size:Int)),.v 12 (.bool false)]) (fun p2=>[(0,.bool g),(1,.string s),(2,.int .i64 x),(6,.pointer (some ⟨(p1 0).N,0,none⟩)),(7,.int .i64 0),(12,.bool false)]) (by kernel_rfl) (fun _ _=>by kernel_rfl) (fun _=>by kernel_rfl) (fun _=>by kernel_rfl) (fun p2=>?_) (fun p2 W2 T hF hK=>?_)
 ·iterate 2 refine ok_v (by kernel_rfl) ?_
  refine ok_vb (decide_eq_false (show ¬ (s.size:Int) > 65536 by omega)) (by kernel_rfl) ?_
  exact ok_nil
 replace hS:=SymF.fb hS hF [0] [⟨(p1 0).N,#[.bool false,.string ⟨#[]⟩,.int .i64 0],23,true⟩] (by kernel_rfl) (by kernel_rfl)
 replace hG:=hF.gx
 clear hF
 have z2:=hS.fr.size
 refine wp_cond_false (hK.ev 12 (by kernel_rfl) _ (by kernel_rfl)) ?_
 refine wp_skip ?_
 refine then_n ?_
 refine wp_seq ?_
 refine wp_symQ hS hG hK (fun p3=>[.v 14 (.string s),.c (some 15) (cV (.bool true)),.v 16 (.bool false)]) (fun p3=>[(0,.bool g),(1,.string s),(2,.int .i64 x),(6,.pointer (some ⟨(p1 0).N,0,none⟩)),(7,.int .i64 0),(12,.bool false),(16,.bool false)]) (by kernel_rfl) (fun _ _=>by kernel_rfl) (fun _=>by kernel_rfl) (fun _=>by kernel_rfl) (fun p3=>?_) (fun p3 W3 T hF hK=>?_)
 ·refine ok_v (by kernel_rfl) ?_
  refine ok_c (fun W cx=>as_v (unhide HA _)) (by kernel_rfl) ?_
  refine ok_v (by kernel_rfl) ?_
  exact ok_nil
 replace hS:=SymF.fb hS hF [0] [⟨(p1 0).N,#[.bool false,.string ⟨#[]⟩,.int .i64 0],23,true⟩] (by kernel_rfl) (by kernel_rfl)
 replace hG:=hF.gx
 clear hF
 have z3:=hS.fr.size
 refine wp_cond_false (hK.ev 16 (by kernel_rfl) _ (by kernel_rfl)) ?_
 refine wp_skip ?_
 refine then_n ?_
 refine wp_symQ hS hG hK (fun p4=>[.v 19 (.string s),.c (some 20) (cV (.tuple #[.int .i64 (f:Int),.int .i64 (t:Int)])),.v 18 (.tuple #[.int .i64 (f:Int),.int .i64 (t:Int)]),.v 21 (.int .i64 (f:Int)),.v 22 (.int .i64 (t:Int)),.v 8 (.int .i64 (f:Int)),.v 9 (.int .i64 (t:Int))]) (fun p4=>[(0,.bool g),(1,.string s),(2,.int .i64 x),(6,.pointer (some ⟨(p1 0).N,0,none⟩)),(7,.int .i64 0),(8,.int .i64 (f:Int)),(9,.int .i64 (t:Int)),(12,.bool false),(16,.bool false)]) (by kernel_rfl) (fun _ _=>by kernel_rfl) (fun _=>by kernel_rfl) (fun _=>by kernel_rfl) (fun p4=>?_) (fun p4 W4 T hF hK=>?_)
 ·refine ok_v (by kernel_rfl) ?_
  refine ok_c (fun W cx=>as_v (unhide HE _)) (by kernel_rfl) ?_
  iterate 5 refine ok_v (by kernel_rfl) ?_
  exact ok_nil
 replace hS:=SymF.fb hS hF [0] [⟨(p1 0).N,#[.bool false,.string ⟨#[]⟩,.int .i64 0],23,true⟩] (by kernel_rfl) (by kernel_rfl)
 replace hG:=hF.gx
 clear hF
 have z4:=hS.fr.size
 refine wp_seq ?_
 refine wp_symQ hS hG hK (fun p5=>[.v 23 (.int .i64 (f:Int)),.v 24 (.int .i64 (t:Int)),.v 25 (.bool true)]) (fun p5=>[(0,.bool g),(1,.string s),(2,.int .i64 x),(6,.pointer (some ⟨(p1 0).N,0,none⟩)),(7,.int .i64 0),(8,.int .i64 (f:Int)),(9,.int .i64 (t:Int)),(12,.bool false),(16,.bool false),(25,.bool true)]) (by kernel_rfl) (fun _ _=>by kernel_rfl) (fun _=>by kernel_rfl) (fun _=>by kernel_rfl) (fun p5=>?_) (fun p5 W5 T hF hK=>?_)
 ·iterate 2 refine ok_v (by kernel_rfl) ?_
  refine ok_vb (beq_iff_eq.2 (show (f:Int) = (t:Int) by omega)) (by kernel_rfl) ?_
  exact ok_nil
 replace hS:=SymF.fb hS hF [0] [⟨(p1 0).N,#[.bool false,.string ⟨#[]⟩,.int .i64 0],23,true⟩] (by kernel_rfl) (by kernel_rfl)
 replace hG:=hF.gx
 clear hF
 have z5:=hS.fr.size
 refine wp_cond_true (hK.ev 25 (by kernel_rfl) _ (by kernel_rfl)) ?_
 refine wp_symQ hS hG hK (fun p6=>[.v 26 (.bool g),.v 27 (.agg #[.bool g,.string ⟨#[]⟩,.int .i64 0]),.p 0 0 [.bool g,.string ⟨#[]⟩,.int .i64 0],.v 7 (.int .i64 0)]) (fun p6=>[(0,.bool g),(1,.string s),(2,.int .i64 x),(6,.pointer (some ⟨(p1 0).N,0,none⟩)),(7,.int .i64 0),(8,.int .i64 (f:Int)),(9,.int .i64 (t:Int)),(12,.bool false),(16,.bool false),(25,.bool true)]) (by kernel_rfl) (fun _ _=>by kernel_rfl) (fun _=>by kernel_rfl) (fun _=>by kernel_rfl) (fun p6=>?_) (fun p6 W6 T hF hK=>?_)
 ·iterate 2 refine ok_v (by kernel_rfl) ?_
  refine ok_P (by kernel_rfl) (by kernel_rfl) (by kernel_rfl) ?_
  refine ok_v (by kernel_rfl) ?_
  exact ok_nil
 replace hS:=SymF.fb hS hF [0] [⟨(p1 0).N,#[.bool g,.string ⟨#[]⟩,.int .i64 0],23,true⟩] (by kernel_rfl) (by kernel_rfl)
 replace hG:=hF.gx
 clear hF
 have z6:=hS.fr.size
 refine wp_ret ?_
 refine then_r ?_
 exact sym_end hS hK (.tuple #[.agg #[.bool g,.string ⟨#[]⟩,.int .i64 0],.int .i64 0]) [(0,0,3)] [.bool g,.string ⟨#[]⟩,.int .i64 0] (by kernel_rfl) (by kernel_rfl) ⟨rfl,hS.fr⟩
theorem make_far (w:World) (g:Bool) (s:ByteArray) (x:Int) (f t:Nat) (u:ByteArray) (z:Nat) (hm:s.size≤65536) (HA:Hid (∀ W:World,Calls Try.prog 34 #[.string s] W fun e W'=>e = .returned (.bool true)∧Below W.heap.size W W')) (HE:Hid (∀ W:World,Calls Try.prog 35 #[.string s] W fun e W'=>e = .returned (.tuple #[.int .i64 (f:Int),.int .i64 (t:Int)])∧Below W.heap.size W W')) (hft:f < t) (ht:t≤s.size) (hu:s.extract f t = u) (hz:t+z = s.size) (HP:Hid (∀ W:World,Calls Try.prog 33 #[.bool g,.string u,.int .i64 (z:Int),.int .i64 x] W fun e W'=>e = .returned (.tuple #[.agg #[.bool false,.string ⟨#[]⟩,.int .i64 0],.int .i64 4])∧Below W.heap.size W W')) :
  Calls Try.prog 11 #[.bool g,.string s,.int .i64 x] w fun en w'=>en = .returned (.tuple #[.agg #[.bool false,.string ⟨#[]⟩,.int .i64 0],.int .i64 4])∧Below w.heap.size w w':=by
 have hsl:script Try.prog 0 (Instr.sliceAt 9 (.string s) (some (.int .i64 (f:Int))) (some (.int .i64 (t:Int))) none) [] = some (.string u,[]):=by rw [← hu]; exact script_slice Try.under_str (by omega) (by omega) (by omega)
 refine calls_sym Try.func11 rfl (by kernel_rfl) fun T hK=>?_
 replace hK:Kn T _ [(0,.bool g),(1,.string s),(2,.int .i64 x)]:=hK
 have hS:=Fb.begin w
 have hG:GsAt [] w:=trivial
 refine wp_symQ hS hG hK (fun p1=>[.n 6 #[.bool false,.string ⟨#[]⟩,.int .i64 0] 23,.v 7 (.int .i64 0)]) (fun p1=>[(0,.bool g),(1,.string s),(2,.int .i64 x),(6,.pointer (some ⟨(p1 0).N,0,none⟩)),(7,.int .i64 0)]) (by kernel_rfl) (fun _ _=>by kernel_rfl) (fun _=>by kernel_rfl) (fun _=>by kernel_rfl) (fun p1=>?_) (fun p1 W1 T hF hK=>?_)
 ·refine ok_n (fun _=>by kernel_rfl) ?_
  refine ok_v (by kernel_rfl) ?_
  exact ok_nil
 replace hS:=SymF.fb hS hF [1000] [⟨(p1 0).N,#[.bool false,.string ⟨#[]⟩,.int .i64 0],23,true⟩] (by kernel_rfl) (by kernel_rfl)
 replace hG:=hF.gx
 clear hF
 have z1:=hS.fr.size
 refine wp_seq ?_
 refine wp_symQ hS hG hK (fun p2=>[.v 10 (.string s),.v 11 (.int .i64 (s.size:Int)),.v 12 (.bool false)]) (fun p2=>[(0,.bool g),(1,.string s),(2,.int .i64 x),(6,.pointer (some ⟨(p1 0).N,0,none⟩)),(7,.int .i64 0),(12,.bool false)]) (by kernel_rfl) (fun _ _=>by kernel_rfl) (fun _=>by kernel_rfl) (fun _=>by kernel_rfl) (fun p2=>?_) (fun p2 W2 T hF hK=>?_)
 ·iterate 2 refine ok_v (by kernel_rfl) ?_
  refine ok_vb (decide_eq_false (show ¬ (s.size:Int) > 65536 by omega)) (by kernel_rfl) ?_
  exact ok_nil
 replace hS:=SymF.fb hS hF [0] [⟨(p1 0).N,#[.bool false,.string ⟨#[]⟩,.int .i64 0],23,true⟩] (by kernel_rfl) (by kernel_rfl)
 replace hG:=hF.gx
 clear hF
 have z2:=hS.fr.size
 refine wp_cond_false (hK.ev 12 (by kernel_rfl) _ (by kernel_rfl)) ?_
 refine wp_skip ?_
 refine then_n ?_
 refine wp_seq ?_
 refine wp_symQ hS hG hK (fun p3=>[.v 14 (.string s),.c (some 15) (cV (.bool true)),.v 16 (.bool false)]) (fun p3=>[(0,.bool g),(1,.string s),(2,.int .i64 x),(6,.pointer (some ⟨(p1 0).N,0,none⟩)),(7,.int .i64 0),(12,.bool false),(16,.bool false)]) (by kernel_rfl) (fun _ _=>by kernel_rfl) (fun _=>by kernel_rfl) (fun _=>by kernel_rfl) (fun p3=>?_) (fun p3 W3 T hF hK=>?_)
 ·refine ok_v (by kernel_rfl) ?_
  refine ok_c (fun W cx=>as_v (unhide HA _)) (by kernel_rfl) ?_
  refine ok_v (by kernel_rfl) ?_
  exact ok_nil
 replace hS:=SymF.fb hS hF [0] [⟨(p1 0).N,#[.bool false,.string ⟨#[]⟩,.int .i64 0],23,true⟩] (by kernel_rfl) (by kernel_rfl)
 replace hG:=hF.gx
 clear hF
 have z3:=hS.fr.size
 refine wp_cond_false (hK.ev 16 (by kernel_rfl) _ (by kernel_rfl)) ?_
 refine wp_skip ?_
 refine then_n ?_
 refine wp_symQ hS hG hK (fun p4=>[.v 19 (.string s),.c (some 20) (cV (.tuple #[.int .i64 (f:Int),.int .i64 (t:Int)])),.v 18 (.tuple #[.int .i64 (f:Int),.int .i64 (t:Int)]),.v 21 (.int .i64 (f:Int)),.v 22 (.int .i64 (t:Int)),.v 8 (.int .i64 (f:Int)),.v 9 (.int .i64 (t:Int))]) (fun p4=>[(0,.bool g),(1,.string s),(2,.int .i64 x),(6,.pointer (some ⟨(p1 0).N,0,none⟩)),(7,.int .i64 0),(8,.int .i64 (f:Int)),(9,.int .i64 (t:Int)),(12,.bool false),(16,.bool false)]) (by kernel_rfl) (fun _ _=>by kernel_rfl) (fun _=>by kernel_rfl) (fun _=>by kernel_rfl) (fun p4=>?_) (fun p4 W4 T hF hK=>?_)
 ·refine ok_v (by kernel_rfl) ?_
  refine ok_c (fun W cx=>as_v (unhide HE _)) (by kernel_rfl) ?_
  iterate 5 refine ok_v (by kernel_rfl) ?_
  exact ok_nil
 replace hS:=SymF.fb hS hF [0] [⟨(p1 0).N,#[.bool false,.string ⟨#[]⟩,.int .i64 0],23,true⟩] (by kernel_rfl) (by kernel_rfl)
 replace hG:=hF.gx
 clear hF
 have z4:=hS.fr.size
 refine wp_seq ?_
 refine wp_symQ hS hG hK (fun p5=>[.v 23 (.int .i64 (f:Int)),.v 24 (.int .i64 (t:Int)),.v 25 (.bool false)]) (fun p5=>[(0,.bool g),(1,.string s),(2,.int .i64 x),(6,.pointer (some ⟨(p1 0).N,0,none⟩)),(7,.int .i64 0),(8,.int .i64 (f:Int)),(9,.int .i64 (t:Int)),(12,.bool false),(16,.bool false),(25,.bool false)]) (by kernel_rfl) (fun _ _=>by kernel_rfl) (fun _=>by kernel_rfl) (fun _=>by kernel_rfl) (fun p5=>?_) (fun p5 W5 T hF hK=>?_)
 ·iterate 2 refine ok_v (by kernel_rfl) ?_
  refine ok_vb (beq_false_of_ne (show (f:Int)≠(t:Int) by omega)) (by kernel_rfl) ?_
  exact ok_nil
 replace hS:=SymF.fb hS hF [0] [⟨(p1 0).N,#[.bool false,.string ⟨#[]⟩,.int .i64 0],23,true⟩] (by kernel_rfl) (by kernel_rfl)
 replace hG:=hF.gx
 clear hF
 have z5:=hS.fr.size
 refine wp_cond_false (hK.ev 25 (by kernel_rfl) _ (by kernel_rfl)) ?_
 refine wp_skip ?_
 refine then_n ?_
 refine wp_symQ hS hG hK (fun p6=>[.v 28 (.bool g),.v 29 (.string s),.v 30 (.int .i64 (f:Int)),.v 31 (.int .i64 (t:Int)),.v 32 (.string u),.v 33 (.string s),.v 34 (.int .i64 (s.size:Int)),.v 35 (.int .i64 (t:Int)),.v 36 (.int .i64 (z:Int)),.v 37 (.int .i64 x),.c (some 38) (cV (.tuple #[.agg #[.bool false,.string ⟨#[]⟩,.int .i64 0],.int .i64 4])),.v 39 (.agg #[.bool false,.string ⟨#[]⟩,.int .i64 0]),.v 40 (.int .i64 4),.p 0 0 [.bool false,.string ⟨#[]⟩,.int .i64 0],.v 7 (.int .i64 4)]) (fun p6=>[(0,.bool g),(6,.pointer (some ⟨(p1 0).N,0,none⟩)),(7,.int .i64 4),(12,.bool false),(16,.bool false),(25,.bool false)]) (by kernel_rfl) (fun _ _=>by kernel_rfl) (fun _=>by kernel_rfl) (fun _=>by kernel_rfl) (fun p6=>?_) (fun p6 W6 T hF hK=>?_)
 ·iterate 4 refine ok_v (by kernel_rfl) ?_
  refine ok_vr (hsl) (by kernel_rfl) ?_
  iterate 3 refine ok_v (by kernel_rfl) ?_
  refine ok_vi ((wr64 (x:=(s.size:Int) - (t:Int)) (by omega) (by omega)).trans (by omega)) (by kernel_rfl) ?_
  refine ok_v (by kernel_rfl) ?_
  refine ok_c (fun W cx=>as_v (unhide HP _)) (by kernel_rfl) ?_
  iterate 2 refine ok_v (by kernel_rfl) ?_
  refine ok_P (by kernel_rfl) (by kernel_rfl) (by kernel_rfl) ?_
  refine ok_v (by kernel_rfl) ?_
  exact ok_nil
 replace hS:=SymF.fb hS hF [0] [⟨(p1 0).N,#[.bool false,.string ⟨#[]⟩,.int .i64 0],23,true⟩] (by kernel_rfl) (by kernel_rfl)
 replace hG:=hF.gx
 clear hF
 have z6:=hS.fr.size
 refine wp_ret ?_
 exact sym_end hS hK (.tuple #[.agg #[.bool false,.string ⟨#[]⟩,.int .i64 0],.int .i64 4]) [(0,0,3)] [.bool false,.string ⟨#[]⟩,.int .i64 0] (by kernel_rfl) (by kernel_rfl) ⟨rfl,hS.fr⟩
theorem make_ok (w:World) (g:Bool) (s:ByteArray) (x:Int) (f t:Nat) (u:ByteArray) (z:Nat) (y:Int) (hm:s.size≤65536) (HA:Hid (∀ W:World,Calls Try.prog 34 #[.string s] W fun e W'=>e = .returned (.bool true)∧Below W.heap.size W W')) (HE:Hid (∀ W:World,Calls Try.prog 35 #[.string s] W fun e W'=>e = .returned (.tuple #[.int .i64 (f:Int),.int .i64 (t:Int)])∧Below W.heap.size W W')) (hft:f < t) (ht:t≤s.size) (hu:s.extract f t = u) (hz:t+z = s.size) (HP:Hid (∀ W:World,Calls Try.prog 33 #[.bool g,.string u,.int .i64 (z:Int),.int .i64 x] W fun e W'=>e = .returned (.tuple #[.agg #[.bool g,.string u,.int .i64 y],.int .i64 0])∧Below W.heap.size W W')) :
  Calls Try.prog 11 #[.bool g,.string s,.int .i64 x] w fun en w'=>en = .returned (.tuple #[.agg #[.bool g,.string u,.int .i64 y],.int .i64 0])∧Below w.heap.size w w':=by
 have hsl:script Try.prog 0 (Instr.sliceAt 9 (.string s) (some (.int .i64 (f:Int))) (some (.int .i64 (t:Int))) none) [] = some (.string u,[]):=by rw [← hu]; exact script_slice Try.under_str (by omega) (by omega) (by omega)
 refine calls_sym Try.func11 rfl (by kernel_rfl) fun T hK=>?_
 replace hK:Kn T _ [(0,.bool g),(1,.string s),(2,.int .i64 x)]:=hK
 have hS:=Fb.begin w
 have hG:GsAt [] w:=trivial
 refine wp_symQ hS hG hK (fun p1=>[.n 6 #[.bool false,.string ⟨#[]⟩,.int .i64 0] 23,.v 7 (.int .i64 0)]) (fun p1=>[(0,.bool g),(1,.string s),(2,.int .i64 x),(6,.pointer (some ⟨(p1 0).N,0,none⟩)),(7,.int .i64 0)]) (by kernel_rfl) (fun _ _=>by kernel_rfl) (fun _=>by kernel_rfl) (fun _=>by kernel_rfl) (fun p1=>?_) (fun p1 W1 T hF hK=>?_)
 ·refine ok_n (fun _=>by kernel_rfl) ?_
  refine ok_v (by kernel_rfl) ?_
  exact ok_nil
 replace hS:=SymF.fb hS hF [1000] [⟨(p1 0).N,#[.bool false,.string ⟨#[]⟩,.int .i64 0],23,true⟩] (by kernel_rfl) (by kernel_rfl)
 replace hG:=hF.gx
 clear hF
 have z1:=hS.fr.size
 refine wp_seq ?_
 refine wp_symQ hS hG hK (fun p2=>[.v 10 (.string s),.v 11 (.int .i64 (s.size:Int)),.v 12 (.bool false)]) (fun p2=>[(0,.bool g),(1,.string s),(2,.int .i64 x),(6,.pointer (some ⟨(p1 0).N,0,none⟩)),(7,.int .i64 0),(12,.bool false)]) (by kernel_rfl) (fun _ _=>by kernel_rfl) (fun _=>by kernel_rfl) (fun _=>by kernel_rfl) (fun p2=>?_) (fun p2 W2 T hF hK=>?_)
 ·iterate 2 refine ok_v (by kernel_rfl) ?_
  refine ok_vb (decide_eq_false (show ¬ (s.size:Int) > 65536 by omega)) (by kernel_rfl) ?_
  exact ok_nil
 replace hS:=SymF.fb hS hF [0] [⟨(p1 0).N,#[.bool false,.string ⟨#[]⟩,.int .i64 0],23,true⟩] (by kernel_rfl) (by kernel_rfl)
 replace hG:=hF.gx
 clear hF
 have z2:=hS.fr.size
 refine wp_cond_false (hK.ev 12 (by kernel_rfl) _ (by kernel_rfl)) ?_
 refine wp_skip ?_
 refine then_n ?_
 refine wp_seq ?_
 refine wp_symQ hS hG hK (fun p3=>[.v 14 (.string s),.c (some 15) (cV (.bool true)),.v 16 (.bool false)]) (fun p3=>[(0,.bool g),(1,.string s),(2,.int .i64 x),(6,.pointer (some ⟨(p1 0).N,0,none⟩)),(7,.int .i64 0),(12,.bool false),(16,.bool false)]) (by kernel_rfl) (fun _ _=>by kernel_rfl) (fun _=>by kernel_rfl) (fun _=>by kernel_rfl) (fun p3=>?_) (fun p3 W3 T hF hK=>?_)
 ·refine ok_v (by kernel_rfl) ?_
  refine ok_c (fun W cx=>as_v (unhide HA _)) (by kernel_rfl) ?_
  refine ok_v (by kernel_rfl) ?_
  exact ok_nil
 replace hS:=SymF.fb hS hF [0] [⟨(p1 0).N,#[.bool false,.string ⟨#[]⟩,.int .i64 0],23,true⟩] (by kernel_rfl) (by kernel_rfl)
 replace hG:=hF.gx
 clear hF
 have z3:=hS.fr.size
 refine wp_cond_false (hK.ev 16 (by kernel_rfl) _ (by kernel_rfl)) ?_
 refine wp_skip ?_
 refine then_n ?_
 refine wp_symQ hS hG hK (fun p4=>[.v 19 (.string s),.c (some 20) (cV (.tuple #[.int .i64 (f:Int),.int .i64 (t:Int)])),.v 18 (.tuple #[.int .i64 (f:Int),.int .i64 (t:Int)]),.v 21 (.int .i64 (f:Int)),.v 22 (.int .i64 (t:Int)),.v 8 (.int .i64 (f:Int)),.v 9 (.int .i64 (t:Int))]) (fun p4=>[(0,.bool g),(1,.string s),(2,.int .i64 x),(6,.pointer (some ⟨(p1 0).N,0,none⟩)),(7,.int .i64 0),(8,.int .i64 (f:Int)),(9,.int .i64 (t:Int)),(12,.bool false),(16,.bool false)]) (by kernel_rfl) (fun _ _=>by kernel_rfl) (fun _=>by kernel_rfl) (fun _=>by kernel_rfl) (fun p4=>?_) (fun p4 W4 T hF hK=>?_)
 ·refine ok_v (by kernel_rfl) ?_
  refine ok_c (fun W cx=>as_v (unhide HE _)) (by kernel_rfl) ?_
  iterate 5 refine ok_v (by kernel_rfl) ?_
  exact ok_nil
 replace hS:=SymF.fb hS hF [0] [⟨(p1 0).N,#[.bool false,.string ⟨#[]⟩,.int .i64 0],23,true⟩] (by kernel_rfl) (by kernel_rfl)
 replace hG:=hF.gx
 clear hF
 have z4:=hS.fr.size
 refine wp_seq ?_
 refine wp_symQ hS hG hK (fun p5=>[.v 23 (.int .i64 (f:Int)),.v 24 (.int .i64 (t:Int)),.v 25 (.bool false)]) (fun p5=>[(0,.bool g),(1,.string s),(2,.int .i64 x),(6,.pointer (some ⟨(p1 0).N,0,none⟩)),(7,.int .i64 0),(8,.int .i64 (f:Int)),(9,.int .i64 (t:Int)),(12,.bool false),(16,.bool false),(25,.bool false)]) (by kernel_rfl) (fun _ _=>by kernel_rfl) (fun _=>by kernel_rfl) (fun _=>by kernel_rfl) (fun p5=>?_) (fun p5 W5 T hF hK=>?_)
 ·iterate 2 refine ok_v (by kernel_rfl) ?_
  refine ok_vb (beq_false_of_ne (show (f:Int)≠(t:Int) by omega)) (by kernel_rfl) ?_
  exact ok_nil
 replace hS:=SymF.fb hS hF [0] [⟨(p1 0).N,#[.bool false,.string ⟨#[]⟩,.int .i64 0],23,true⟩] (by kernel_rfl) (by kernel_rfl)
 replace hG:=hF.gx
 clear hF
 have z5:=hS.fr.size
 refine wp_cond_false (hK.ev 25 (by kernel_rfl) _ (by kernel_rfl)) ?_
 refine wp_skip ?_
 refine then_n ?_
 refine wp_symQ hS hG hK (fun p6=>[.v 28 (.bool g),.v 29 (.string s),.v 30 (.int .i64 (f:Int)),.v 31 (.int .i64 (t:Int)),.v 32 (.string u),.v 33 (.string s),.v 34 (.int .i64 (s.size:Int)),.v 35 (.int .i64 (t:Int)),.v 36 (.int .i64 (z:Int)),.v 37 (.int .i64 x),.c (some 38) (cV (.tuple #[.agg #[.bool g,.string u,.int .i64 y],.int .i64 0])),.v 39 (.agg #[.bool g,.string u,.int .i64 y]),.v 40 (.int .i64 0),.p 0 0 [.bool g,.string u,.int .i64 y],.v 7 (.int .i64 0)]) (fun p6=>[(0,.bool g),(6,.pointer (some ⟨(p1 0).N,0,none⟩)),(7,.int .i64 0),(12,.bool false),(16,.bool false),(25,.bool false)]) (by kernel_rfl) (fun _ _=>by kernel_rfl) (fun _=>by kernel_rfl) (fun _=>by kernel_rfl) (fun p6=>?_) (fun p6 W6 T hF hK=>?_)
 ·iterate 4 refine ok_v (by kernel_rfl) ?_
  refine ok_vr (hsl) (by kernel_rfl) ?_
  iterate 3 refine ok_v (by kernel_rfl) ?_
  refine ok_vi ((wr64 (x:=(s.size:Int) - (t:Int)) (by omega) (by omega)).trans (by omega)) (by kernel_rfl) ?_
  refine ok_v (by kernel_rfl) ?_
  refine ok_c (fun W cx=>as_v (unhide HP _)) (by kernel_rfl) ?_
  iterate 2 refine ok_v (by kernel_rfl) ?_
  refine ok_P (by kernel_rfl) (by kernel_rfl) (by kernel_rfl) ?_
  refine ok_v (by kernel_rfl) ?_
  exact ok_nil
 replace hS:=SymF.fb hS hF [0] [⟨(p1 0).N,#[.bool g,.string u,.int .i64 y],23,true⟩] (by kernel_rfl) (by kernel_rfl)
 replace hG:=hF.gx
 clear hF
 have z6:=hS.fr.size
 refine wp_ret ?_
 exact sym_end hS hK (.tuple #[.agg #[.bool g,.string u,.int .i64 y],.int .i64 0]) [(0,0,3)] [.bool g,.string u,.int .i64 y] (by kernel_rfl) (by kernel_rfl) ⟨rfl,hS.fr⟩
theorem two_any (w:World) (g:Bool) (s:ByteArray) (x e9:Int)  :
  Calls Try.prog 7 #[.agg #[.bool g,.string s,.int .i64 x],.int .i64 e9] w fun en w'=>en = .returned (.agg #[.bool g,.string s,.int .i64 x,.bool false,.int .i64 e9])∧Below w.heap.size w w':=by
 refine calls_sym Try.func7 rfl (by kernel_rfl) fun T hK=>?_
 replace hK:Kn T _ [(0,.agg #[.bool g,.string s,.int .i64 x]),(1,.int .i64 e9)]:=hK
 have hS:=Fb.begin w
 have hG:GsAt [] w:=trivial
 refine wp_symQ hS hG hK (fun p1=>[.n 2 #[.bool g,.string s,.int .i64 x] 23,.n 4 #[.bool false,.string ⟨#[]⟩,.int .i64 0,.bool false,.int .i64 0] 26]) (fun p1=>[(1,.int .i64 e9),(2,.pointer (some ⟨(p1 0).N,0,none⟩)),(4,.pointer (some ⟨(p1 1).N,0,none⟩))]) (by kernel_rfl) (fun _ _=>by kernel_rfl) (fun _=>by kernel_rfl) (fun _=>by kernel_rfl) (fun p1=>?_) (fun p1 W1 T hF hK=>?_)
 ·iterate 2 refine ok_n (fun _=>by kernel_rfl) ?_
  exact ok_nil
 replace hS:=SymF.fb hS hF [1000,1001] [⟨(p1 0).N,#[.bool g,.string s,.int .i64 x],23,true⟩,⟨(p1 1).N,#[.bool false,.string ⟨#[]⟩,.int .i64 0,.bool false,.int .i64 0],26,true⟩] (by kernel_rfl) (by kernel_rfl)
 replace hG:=hF.gx
 clear hF
 have z1:=hS.fr.size
 refine wp_symQ hS hG hK (fun p2=>[.l 5 (.agg #[.bool g,.string s,.int .i64 x]) 0 0,.v 6 (.int .i64 e9),.v 7 (.agg #[.bool g,.string s,.int .i64 x,.bool false,.int .i64 e9]),.p 1 0 [.bool g,.string s,.int .i64 x,.bool false,.int .i64 e9]]) (fun p2=>[(4,.pointer (some ⟨(p1 1).N,0,none⟩))]) (by kernel_rfl) (fun _ _=>by kernel_rfl) (fun _=>by kernel_rfl) (fun _=>by kernel_rfl) (fun p2=>?_) (fun p2 W2 T hF hK=>?_)
 ·refine ok_L (by kernel_rfl) (by kernel_rfl) (by kernel_rfl) ?_
  iterate 2 refine ok_v (by kernel_rfl) ?_
  refine ok_P (by kernel_rfl) (by kernel_rfl) (by kernel_rfl) ?_
  exact ok_nil
 replace hS:=SymF.fb hS hF [1] [⟨(p1 1).N,#[.bool g,.string s,.int .i64 x,.bool false,.int .i64 e9],26,true⟩] (by kernel_rfl) (by kernel_rfl)
 replace hG:=hF.gx
 clear hF
 have z2:=hS.fr.size
 refine wp_ret ?_
 exact sym_end hS hK (.agg #[.bool g,.string s,.int .i64 x,.bool false,.int .i64 e9]) [(0,0,5)] [.bool g,.string s,.int .i64 x,.bool false,.int .i64 e9] (by kernel_rfl) (by kernel_rfl) ⟨rfl,hS.fr⟩
theorem told_under:Try.prog.underlying 26 = some (.struct (Try.prog.fieldsOf 26)):=by kernel_rfl
theorem eq_told (g:Bool) (s:ByteArray) (x:Int) (b:Bool) (e:Int) (W:World) :
  (Op.equalIn 10000 26 (.agg #[.bool g,.string s,.int .i64 x,.bool b,.int .i64 e]) (.agg #[.bool g,.string s,.int .i64 x,.bool b,.int .i64 e])).run Try.prog W = .ok true W:=by
 have hs:Try.prog.stoodInHeld 26 = false:=by kernel_rfl
 rw [show (10000:Nat) = 9999+1 from rfl,run_equalIn_struct W 9999 _ _ _ told_under hs]
 simp [go_sem,Op.eqFields]
end Go.Proofs.Ytpaoacehbomdmaa
