/- Of what DecShiftsRow stands on: DcMakeW DcChkW DcRndW DcMakesLaw DcRndL DcCmpW. -/
import Derived.Test.YtdbmdhfjmdlihaaDoorPai
import Derived.Test.YtdbmdhfjmdlihaaDoorPaj
import Derived.Test.YtdbmdhfjmdlihaaDoorPak
import Derived.ChangeKeysEq
import Derived.Test.YtdbmdhfjmdlihaaDoorPab
namespace Go.Proofs.YtdbmdhfjmdlihaaDoor
open Go.RowKit
set_option maxHeartbeats 2000000
set_option maxRecDepth 20000
theorem Tryd.under_str:Tryd.prog.underlying 9 = some .string:=by kernel_rfl
theorem copied_any (w:World) (g:Bool) (s:ByteArray) (x:Int) (hs:s.size≤281474976710656) :
  Calls Tryd.prog 32 #[.agg #[.bool g,.string s,.int .i64 x]] w fun en w'=>en = .returned (.agg #[.bool g,.string s,.int .i64 x])∧Below w.heap.size w w':=by
 refine calls_sym Tryd.func32 rfl (by kernel_rfl) fun T hK=>?_
 replace hK:Kn T _ [(0,.agg #[.bool g,.string s,.int .i64 x])]:=hK
 have hS:=Fb.begin w
 have hG:GsAt [] w:=trivial
 refine wp_symQ hS hG hK (fun p1=>[.n 1 #[.bool g,.string s,.int .i64 x] 23,.n 2 #[.bool false,.string ⟨#[]⟩,.int .i64 0] 23]) (fun p1=>[(1,.pointer (some ⟨(p1 0).N,0,none⟩)),(2,.pointer (some ⟨(p1 1).N,0,none⟩))]) (by kernel_rfl) (fun _ _=>by kernel_rfl) (fun _=>by kernel_rfl) (fun _=>by kernel_rfl) (fun p1=>?_) (fun p1 W1 T hF hK=>?_)
 ·iterate 2 refine ok_n (fun _=>by kernel_rfl) ?_
  exact ok_nil
 replace hS:=SymF.fb hS hF [1000,1001] [⟨(p1 0).N,#[.bool g,.string s,.int .i64 x],23,true⟩,⟨(p1 1).N,#[.bool false,.string ⟨#[]⟩,.int .i64 0],23,true⟩] (by kernel_rfl) (by kernel_rfl)
 replace hG:=hF.gx
 clear hF
 have z1:=hS.fr.size
 refine wp_symQ hS hG hK (fun p2=>[.v 3 (.pointer (some ⟨(p1 0).N,1,none⟩)),.l 4 (.string s) 0 1,.c (some 5) (cV (.string s)),.v 6 (.pointer (some ⟨(p1 0).N,1,none⟩)),.p 0 1 [.string s]]) (fun p2=>[(1,.pointer (some ⟨(p1 0).N,0,none⟩)),(2,.pointer (some ⟨(p1 1).N,0,none⟩))]) (by kernel_rfl) (fun _ _=>by kernel_rfl) (fun _=>by kernel_rfl) (fun _=>by kernel_rfl) (fun p2=>?_) (fun p2 W2 T hF hK=>?_)
 ·refine ok_v (by kernel_rfl) ?_
  refine ok_L (by kernel_rfl) (by kernel_rfl) (by kernel_rfl) ?_
  refine ok_c (fun W cx=>as_v (sclone_any s _ hs)) (by kernel_rfl) ?_
  refine ok_v (by kernel_rfl) ?_
  refine ok_P (by kernel_rfl) (by kernel_rfl) (by kernel_rfl) ?_
  exact ok_nil
 replace hS:=SymF.fb hS hF [0,1] [⟨(p1 0).N,#[.bool g,.string s,.int .i64 x],23,true⟩,⟨(p1 1).N,#[.bool false,.string ⟨#[]⟩,.int .i64 0],23,true⟩] (by kernel_rfl) (by kernel_rfl)
 replace hG:=hF.gx
 clear hF
 have z2:=hS.fr.size
 refine wp_symQ hS hG hK (fun p3=>[.l 7 (.agg #[.bool g,.string s,.int .i64 x]) 0 0,.p 1 0 [.bool g,.string s,.int .i64 x]]) (fun p3=>[(2,.pointer (some ⟨(p1 1).N,0,none⟩))]) (by kernel_rfl) (fun _ _=>by kernel_rfl) (fun _=>by kernel_rfl) (fun _=>by kernel_rfl) (fun p3=>?_) (fun p3 W3 T hF hK=>?_)
 ·refine ok_L (by kernel_rfl) (by kernel_rfl) (by kernel_rfl) ?_
  refine ok_P (by kernel_rfl) (by kernel_rfl) (by kernel_rfl) ?_
  exact ok_nil
 replace hS:=SymF.fb hS hF [1] [⟨(p1 1).N,#[.bool g,.string s,.int .i64 x],23,true⟩] (by kernel_rfl) (by kernel_rfl)
 replace hG:=hF.gx
 clear hF
 have z3:=hS.fr.size
 refine wp_ret ?_
 exact sym_end hS hK (.agg #[.bool g,.string s,.int .i64 x]) [(0,0,3)] [.bool g,.string s,.int .i64 x] (by kernel_rfl) (by kernel_rfl) ⟨rfl,hS.fr⟩
theorem two_any (w:World) (g:Bool) (s:ByteArray) (x e9:Int)  :
  Calls Tryd.prog 8 #[.agg #[.bool g,.string s,.int .i64 x],.int .i64 e9] w fun en w'=>en = .returned (.agg #[.bool g,.string s,.int .i64 x,.bool false,.int .i64 e9])∧Below w.heap.size w w':=by
 refine calls_sym Tryd.func8 rfl (by kernel_rfl) fun T hK=>?_
 replace hK:Kn T _ [(0,.agg #[.bool g,.string s,.int .i64 x]),(1,.int .i64 e9)]:=hK
 have hS:=Fb.begin w
 have hG:GsAt [] w:=trivial
 refine wp_symQ hS hG hK (fun p1=>[.n 2 #[.bool g,.string s,.int .i64 x] 23,.n 4 #[.bool false,.string ⟨#[]⟩,.int .i64 0,.bool false,.int .i64 0] 28]) (fun p1=>[(1,.int .i64 e9),(2,.pointer (some ⟨(p1 0).N,0,none⟩)),(4,.pointer (some ⟨(p1 1).N,0,none⟩))]) (by kernel_rfl) (fun _ _=>by kernel_rfl) (fun _=>by kernel_rfl) (fun _=>by kernel_rfl) (fun p1=>?_) (fun p1 W1 T hF hK=>?_)
 ·iterate 2 refine ok_n (fun _=>by kernel_rfl) ?_
  exact ok_nil
 replace hS:=SymF.fb hS hF [1000,1001] [⟨(p1 0).N,#[.bool g,.string s,.int .i64 x],23,true⟩,⟨(p1 1).N,#[.bool false,.string ⟨#[]⟩,.int .i64 0,.bool false,.int .i64 0],28,true⟩] (by kernel_rfl) (by kernel_rfl)
 replace hG:=hF.gx
 clear hF
 have z1:=hS.fr.size
 refine wp_symQ hS hG hK (fun p2=>[.l 5 (.agg #[.bool g,.string s,.int .i64 x]) 0 0,.v 6 (.int .i64 e9),.v 7 (.agg #[.bool g,.string s,.int .i64 x,.bool false,.int .i64 e9]),.p 1 0 [.bool g,.string s,.int .i64 x,.bool false,.int .i64 e9]]) (fun p2=>[(4,.pointer (some ⟨(p1 1).N,0,none⟩))]) (by kernel_rfl) (fun _ _=>by kernel_rfl) (fun _=>by kernel_rfl) (fun _=>by kernel_rfl) (fun p2=>?_) (fun p2 W2 T hF hK=>?_)
 ·refine ok_L (by kernel_rfl) (by kernel_rfl) (by kernel_rfl) ?_
  iterate 2 refine ok_v (by kernel_rfl) ?_
  refine ok_P (by kernel_rfl) (by kernel_rfl) (by kernel_rfl) ?_
  exact ok_nil
 replace hS:=SymF.fb hS hF [1] [⟨(p1 1).N,#[.bool g,.string s,.int .i64 x,.bool false,.int .i64 e9],28,true⟩] (by kernel_rfl) (by kernel_rfl)
 replace hG:=hF.gx
 clear hF
 have z2:=hS.fr.size
 refine wp_ret ?_
 exact sym_end hS hK (.agg #[.bool g,.string s,.int .i64 x,.bool false,.int .i64 e9]) [(0,0,5)] [.bool g,.string s,.int .i64 x,.bool false,.int .i64 e9] (by kernel_rfl) (by kernel_rfl) ⟨rfl,hS.fr⟩
theorem isN_t (w:World) (g:Bool) (s:ByteArray) (x:Int) (hz:s.size = 0) :
  Calls Tryd.prog 20 #[.agg #[.bool g,.string s,.int .i64 x]] w fun en w'=>en = .returned (.bool true)∧Below w.heap.size w w':=by
 refine calls_sym Tryd.func20 rfl (by kernel_rfl) fun T hK=>?_
 replace hK:Kn T _ [(0,.agg #[.bool g,.string s,.int .i64 x])]:=hK
 have hS:=Fb.begin w
 have hG:GsAt [] w:=trivial
 refine wp_symQ hS hG hK (fun p1=>[.n 1 #[.bool g,.string s,.int .i64 x] 23,.v 2 (.bool false)]) (fun p1=>[(1,.pointer (some ⟨(p1 0).N,0,none⟩)),(2,.bool false)]) (by kernel_rfl) (fun _ _=>by kernel_rfl) (fun _=>by kernel_rfl) (fun _=>by kernel_rfl) (fun p1=>?_) (fun p1 W1 T hF hK=>?_)
 ·refine ok_n (fun _=>by kernel_rfl) ?_
  refine ok_v (by kernel_rfl) ?_
  exact ok_nil
 replace hS:=SymF.fb hS hF [1000] [⟨(p1 0).N,#[.bool g,.string s,.int .i64 x],23,true⟩] (by kernel_rfl) (by kernel_rfl)
 replace hG:=hF.gx
 clear hF
 have z1:=hS.fr.size
 refine wp_symQ hS hG hK (fun p2=>[.v 3 (.pointer (some ⟨(p1 0).N,1,none⟩)),.l 4 (.string s) 0 1,.v 5 (.int .i64 (s.size:Int)),.v 6 (.bool true),.v 2 (.bool true)]) (fun p2=>[(2,.bool true)]) (by kernel_rfl) (fun _ _=>by kernel_rfl) (fun _=>by kernel_rfl) (fun _=>by kernel_rfl) (fun p2=>?_) (fun p2 W2 T hF hK=>?_)
 ·refine ok_v (by kernel_rfl) ?_
  refine ok_L (by kernel_rfl) (by kernel_rfl) (by kernel_rfl) ?_
  refine ok_v (by kernel_rfl) ?_
  refine ok_vb (beq_iff_eq.2 (show (s.size:Int) = 0 by omega)) (by kernel_rfl) ?_
  refine ok_v (by kernel_rfl) ?_
  exact ok_nil
 replace hS:=SymF.fb hS hF [] [] (by kernel_rfl) (by kernel_rfl)
 replace hG:=hF.gx
 clear hF
 have z2:=hS.fr.size
 refine wp_ret ?_
 exact sym_end hS hK (.bool true) [] [] (by kernel_rfl) (by kernel_rfl) ⟨rfl,hS.fr⟩
theorem rnone_t (w:World) (g:Bool) (s:ByteArray) (x:Int) (hz:s.size = 0) :
  Calls Tryd.prog 15 #[.agg #[.bool g,.string s,.int .i64 x]] w fun en w'=>en = .returned (.bool true)∧Below w.heap.size w w':=by
 refine calls_sym Tryd.func15 rfl (by kernel_rfl) fun T hK=>?_
 replace hK:Kn T _ [(0,.agg #[.bool g,.string s,.int .i64 x])]:=hK
 have hS:=Fb.begin w
 have hG:GsAt [] w:=trivial
 refine wp_symQ hS hG hK (fun p1=>[.n 1 #[.bool g,.string s,.int .i64 x] 23,.v 2 (.bool false)]) (fun p1=>[(1,.pointer (some ⟨(p1 0).N,0,none⟩)),(2,.bool false)]) (by kernel_rfl) (fun _ _=>by kernel_rfl) (fun _=>by kernel_rfl) (fun _=>by kernel_rfl) (fun p1=>?_) (fun p1 W1 T hF hK=>?_)
 ·refine ok_n (fun _=>by kernel_rfl) ?_
  refine ok_v (by kernel_rfl) ?_
  exact ok_nil
 replace hS:=SymF.fb hS hF [1000] [⟨(p1 0).N,#[.bool g,.string s,.int .i64 x],23,true⟩] (by kernel_rfl) (by kernel_rfl)
 replace hG:=hF.gx
 clear hF
 have z1:=hS.fr.size
 refine wp_symQ hS hG hK (fun p2=>[.v 3 (.pointer (some ⟨(p1 0).N,1,none⟩)),.l 4 (.string s) 0 1,.v 5 (.int .i64 (s.size:Int)),.v 6 (.bool true),.v 2 (.bool true)]) (fun p2=>[(2,.bool true)]) (by kernel_rfl) (fun _ _=>by kernel_rfl) (fun _=>by kernel_rfl) (fun _=>by kernel_rfl) (fun p2=>?_) (fun p2 W2 T hF hK=>?_)
 ·refine ok_v (by kernel_rfl) ?_
  refine ok_L (by kernel_rfl) (by kernel_rfl) (by kernel_rfl) ?_
  refine ok_v (by kernel_rfl) ?_
  refine ok_vb (beq_iff_eq.2 (show (s.size:Int) = 0 by omega)) (by kernel_rfl) ?_
  refine ok_v (by kernel_rfl) ?_
  exact ok_nil
 replace hS:=SymF.fb hS hF [] [] (by kernel_rfl) (by kernel_rfl)
 replace hG:=hF.gx
 clear hF
 have z2:=hS.fr.size
 refine wp_ret ?_
 exact sym_end hS hK (.bool true) [] [] (by kernel_rfl) (by kernel_rfl) ⟨rfl,hS.fr⟩
theorem isN_f (w:World) (g:Bool) (s:ByteArray) (x:Int) (hz:s.size≠0) :
  Calls Tryd.prog 20 #[.agg #[.bool g,.string s,.int .i64 x]] w fun en w'=>en = .returned (.bool false)∧Below w.heap.size w w':=by
 refine calls_sym Tryd.func20 rfl (by kernel_rfl) fun T hK=>?_
 replace hK:Kn T _ [(0,.agg #[.bool g,.string s,.int .i64 x])]:=hK
 have hS:=Fb.begin w
 have hG:GsAt [] w:=trivial
 refine wp_symQ hS hG hK (fun p1=>[.n 1 #[.bool g,.string s,.int .i64 x] 23,.v 2 (.bool false)]) (fun p1=>[(1,.pointer (some ⟨(p1 0).N,0,none⟩)),(2,.bool false)]) (by kernel_rfl) (fun _ _=>by kernel_rfl) (fun _=>by kernel_rfl) (fun _=>by kernel_rfl) (fun p1=>?_) (fun p1 W1 T hF hK=>?_)
 ·refine ok_n (fun _=>by kernel_rfl) ?_
  refine ok_v (by kernel_rfl) ?_
  exact ok_nil
 replace hS:=SymF.fb hS hF [1000] [⟨(p1 0).N,#[.bool g,.string s,.int .i64 x],23,true⟩] (by kernel_rfl) (by kernel_rfl)
 replace hG:=hF.gx
 clear hF
 have z1:=hS.fr.size
 refine wp_symQ hS hG hK (fun p2=>[.v 3 (.pointer (some ⟨(p1 0).N,1,none⟩)),.l 4 (.string s) 0 1,.v 5 (.int .i64 (s.size:Int)),.v 6 (.bool false),.v 2 (.bool false)]) (fun p2=>[(2,.bool false)]) (by kernel_rfl) (fun _ _=>by kernel_rfl) (fun _=>by kernel_rfl) (fun _=>by kernel_rfl) (fun p2=>?_) (fun p2 W2 T hF hK=>?_)
 ·refine ok_v (by kernel_rfl) ?_
  refine ok_L (by kernel_rfl) (by kernel_rfl) (by kernel_rfl) ?_
  refine ok_v (by kernel_rfl) ?_
  refine ok_vb (beq_false_of_ne (show (s.size:Int)≠0 by omega)) (by kernel_rfl) ?_
  refine ok_v (by kernel_rfl) ?_
  exact ok_nil
 replace hS:=SymF.fb hS hF [] [] (by kernel_rfl) (by kernel_rfl)
 replace hG:=hF.gx
 clear hF
 have z2:=hS.fr.size
 refine wp_ret ?_
 exact sym_end hS hK (.bool false) [] [] (by kernel_rfl) (by kernel_rfl) ⟨rfl,hS.fr⟩
theorem rnone_f (w:World) (g:Bool) (s:ByteArray) (x:Int) (hz:s.size≠0) :
  Calls Tryd.prog 15 #[.agg #[.bool g,.string s,.int .i64 x]] w fun en w'=>en = .returned (.bool false)∧Below w.heap.size w w':=by
 refine calls_sym Tryd.func15 rfl (by kernel_rfl) fun T hK=>?_
 replace hK:Kn T _ [(0,.agg #[.bool g,.string s,.int .i64 x])]:=hK
 have hS:=Fb.begin w
 have hG:GsAt [] w:=trivial
 refine wp_symQ hS hG hK (fun p1=>[.n 1 #[.bool g,.string s,.int .i64 x] 23,.v 2 (.bool false)]) (fun p1=>[(1,.pointer (some ⟨(p1 0).N,0,none⟩)),(2,.bool false)]) (by kernel_rfl) (fun _ _=>by kernel_rfl) (fun _=>by kernel_rfl) (fun _=>by kernel_rfl) (fun p1=>?_) (fun p1 W1 T hF hK=>?_)
 ·refine ok_n (fun _=>by kernel_rfl) ?_
  refine ok_v (by kernel_rfl) ?_
  exact ok_nil
 replace hS:=SymF.fb hS hF [1000] [⟨(p1 0).N,#[.bool g,.string s,.int .i64 x],23,true⟩] (by kernel_rfl) (by kernel_rfl)
 replace hG:=hF.gx
 clear hF
 have z1:=hS.fr.size
 refine wp_symQ hS hG hK (fun p2=>[.v 3 (.pointer (some ⟨(p1 0).N,1,none⟩)),.l 4 (.string s) 0 1,.v 5 (.int .i64 (s.size:Int)),.v 6 (.bool false),.v 2 (.bool false)]) (fun p2=>[(2,.bool false)]) (by kernel_rfl) (fun _ _=>by kernel_rfl) (fun _=>by kernel_rfl) (fun _=>by kernel_rfl) (fun p2=>?_) (fun p2 W2 T hF hK=>?_)
 ·refine ok_v (by kernel_rfl) ?_
  refine ok_L (by kernel_rfl) (by kernel_rfl) (by kernel_rfl) ?_
  refine ok_v (by kernel_rfl) ?_
  refine ok_vb (beq_false_of_ne (show (s.size:Int)≠0 by omega)) (by kernel_rfl) ?_
  refine ok_v (by kernel_rfl) ?_
  exact ok_nil
 replace hS:=SymF.fb hS hF [] [] (by kernel_rfl) (by kernel_rfl)
 replace hG:=hF.gx
 clear hF
 have z2:=hS.fr.size
 refine wp_ret ?_
 exact sym_end hS hK (.bool false) [] [] (by kernel_rfl) (by kernel_rfl) ⟨rfl,hS.fr⟩
theorem bey_lo (w:World) (x:Int) (h:x < -1073741824) :
  Calls Tryd.prog 26 #[.int .i64 x] w fun en w'=>en = .returned (.bool true)∧Below w.heap.size w w':=by
 refine calls_sym Tryd.func26 rfl (by kernel_rfl) fun T hK=>?_
 replace hK:Kn T _ [(0,.int .i64 x)]:=hK
 have hS:=Fb.begin w
 have hG:GsAt [] w:=trivial
 refine wp_symQ hS hG hK (fun p1=>[.v 2 (.bool false)]) (fun p1=>[(0,.int .i64 x),(2,.bool false)]) (by kernel_rfl) (fun _ _=>by kernel_rfl) (fun _=>by kernel_rfl) (fun _=>by kernel_rfl) (fun p1=>?_) (fun p1 W1 T hF hK=>?_)
 ·refine ok_v (by kernel_rfl) ?_
  exact ok_nil
 replace hS:=SymF.fb hS hF [] [] (by kernel_rfl) (by kernel_rfl)
 replace hG:=hF.gx
 clear hF
 have z1:=hS.fr.size
 refine wp_symQ hS hG hK (fun p2=>[.v 3 (.int .i64 x),.v 4 (.bool true),.v 5 (.bool true),.k (some 6),.k (some 7),.v 8 (.bool true),.v 2 (.bool true)]) (fun p2=>[(2,.bool true)]) (by kernel_rfl) (fun _ _=>by kernel_rfl) (fun _=>by kernel_rfl) (fun _=>by kernel_rfl) (fun p2=>?_) (fun p2 W2 T hF hK=>?_)
 ·refine ok_v (by kernel_rfl) ?_
  refine ok_vb (decide_eq_true (show x < -1073741824 by omega)) (by kernel_rfl) ?_
  refine ok_v (by kernel_rfl) ?_
  iterate 2 refine ok_K (by kernel_rfl) ?_
  iterate 2 refine ok_v (by kernel_rfl) ?_
  exact ok_nil
 replace hS:=SymF.fb hS hF [] [] (by kernel_rfl) (by kernel_rfl)
 replace hG:=hF.gx
 clear hF
 have z2:=hS.fr.size
 refine wp_ret ?_
 exact sym_end hS hK (.bool true) [] [] (by kernel_rfl) (by kernel_rfl) ⟨rfl,hS.fr⟩
theorem bey_hi (w:World) (x:Int) (_h0:-1073741824≤x) (h:1073741824 < x) :
  Calls Tryd.prog 26 #[.int .i64 x] w fun en w'=>en = .returned (.bool true)∧Below w.heap.size w w':=by
 refine calls_sym Tryd.func26 rfl (by kernel_rfl) fun T hK=>?_
 replace hK:Kn T _ [(0,.int .i64 x)]:=hK
 have hS:=Fb.begin w
 have hG:GsAt [] w:=trivial
 refine wp_symQ hS hG hK (fun p1=>[.v 2 (.bool false)]) (fun p1=>[(0,.int .i64 x),(2,.bool false)]) (by kernel_rfl) (fun _ _=>by kernel_rfl) (fun _=>by kernel_rfl) (fun _=>by kernel_rfl) (fun p1=>?_) (fun p1 W1 T hF hK=>?_)
 ·refine ok_v (by kernel_rfl) ?_
  exact ok_nil
 replace hS:=SymF.fb hS hF [] [] (by kernel_rfl) (by kernel_rfl)
 replace hG:=hF.gx
 clear hF
 have z1:=hS.fr.size
 refine wp_symQ hS hG hK (fun p2=>[.v 3 (.int .i64 x),.v 4 (.bool false),.v 5 (.bool false),.v 6 (.int .i64 x),.v 7 (.bool true),.v 8 (.bool true),.v 2 (.bool true)]) (fun p2=>[(2,.bool true)]) (by kernel_rfl) (fun _ _=>by kernel_rfl) (fun _=>by kernel_rfl) (fun _=>by kernel_rfl) (fun p2=>?_) (fun p2 W2 T hF hK=>?_)
 ·refine ok_v (by kernel_rfl) ?_
  refine ok_vb (decide_eq_false (show ¬ x < -1073741824 by omega)) (by kernel_rfl) ?_
  iterate 2 refine ok_v (by kernel_rfl) ?_
  refine ok_vb (decide_eq_true (show x > 1073741824 by omega)) (by kernel_rfl) ?_
  iterate 2 refine ok_v (by kernel_rfl) ?_
  exact ok_nil
 replace hS:=SymF.fb hS hF [] [] (by kernel_rfl) (by kernel_rfl)
 replace hG:=hF.gx
 clear hF
 have z2:=hS.fr.size
 refine wp_ret ?_
 exact sym_end hS hK (.bool true) [] [] (by kernel_rfl) (by kernel_rfl) ⟨rfl,hS.fr⟩
theorem bey_in (w:World) (x:Int) (h0:-1073741824≤x) (h:x≤1073741824) :
  Calls Tryd.prog 26 #[.int .i64 x] w fun en w'=>en = .returned (.bool false)∧Below w.heap.size w w':=by
 refine calls_sym Tryd.func26 rfl (by kernel_rfl) fun T hK=>?_
 replace hK:Kn T _ [(0,.int .i64 x)]:=hK
 have hS:=Fb.begin w
 have hG:GsAt [] w:=trivial
 refine wp_symQ hS hG hK (fun p1=>[.v 2 (.bool false)]) (fun p1=>[(0,.int .i64 x),(2,.bool false)]) (by kernel_rfl) (fun _ _=>by kernel_rfl) (fun _=>by kernel_rfl) (fun _=>by kernel_rfl) (fun p1=>?_) (fun p1 W1 T hF hK=>?_)
 ·refine ok_v (by kernel_rfl) ?_
  exact ok_nil
 replace hS:=SymF.fb hS hF [] [] (by kernel_rfl) (by kernel_rfl)
 replace hG:=hF.gx
 clear hF
 have z1:=hS.fr.size
 refine wp_symQ hS hG hK (fun p2=>[.v 3 (.int .i64 x),.v 4 (.bool false),.v 5 (.bool false),.v 6 (.int .i64 x),.v 7 (.bool false),.v 8 (.bool false),.v 2 (.bool false)]) (fun p2=>[(2,.bool false)]) (by kernel_rfl) (fun _ _=>by kernel_rfl) (fun _=>by kernel_rfl) (fun _=>by kernel_rfl) (fun p2=>?_) (fun p2 W2 T hF hK=>?_)
 ·refine ok_v (by kernel_rfl) ?_
  refine ok_vb (decide_eq_false (show ¬ x < -1073741824 by omega)) (by kernel_rfl) ?_
  iterate 2 refine ok_v (by kernel_rfl) ?_
  refine ok_vb (decide_eq_false (show ¬ x > 1073741824 by omega)) (by kernel_rfl) ?_
  iterate 2 refine ok_v (by kernel_rfl) ?_
  exact ok_nil
 replace hS:=SymF.fb hS hF [] [] (by kernel_rfl) (by kernel_rfl)
 replace hG:=hF.gx
 clear hF
 have z2:=hS.fr.size
 refine wp_ret ?_
 exact sym_end hS hK (.bool false) [] [] (by kernel_rfl) (by kernel_rfl) ⟨rfl,hS.fr⟩
theorem dck_many (w:World) (g:Bool) (s:ByteArray) (x:Int) (hm:65536 < s.size) :
  Calls Tryd.prog 11 #[.agg #[.bool g,.string s,.int .i64 x]] w fun en w'=>en = .returned (.int .i64 4)∧Below w.heap.size w w':=by
 refine calls_sym Tryd.func11 rfl (by kernel_rfl) fun T hK=>?_
 replace hK:Kn T _ [(0,.agg #[.bool g,.string s,.int .i64 x])]:=hK
 have hS:=Fb.begin w
 have hG:GsAt [] w:=trivial
 refine wp_symQ hS hG hK (fun p1=>[.n 1 #[.bool g,.string s,.int .i64 x] 23,.v 2 (.int .i64 0)]) (fun p1=>[(1,.pointer (some ⟨(p1 0).N,0,none⟩)),(2,.int .i64 0)]) (by kernel_rfl) (fun _ _=>by kernel_rfl) (fun _=>by kernel_rfl) (fun _=>by kernel_rfl) (fun p1=>?_) (fun p1 W1 T hF hK=>?_)
 ·refine ok_n (fun _=>by kernel_rfl) ?_
  refine ok_v (by kernel_rfl) ?_
  exact ok_nil
 replace hS:=SymF.fb hS hF [1000] [⟨(p1 0).N,#[.bool g,.string s,.int .i64 x],23,true⟩] (by kernel_rfl) (by kernel_rfl)
 replace hG:=hF.gx
 clear hF
 have z1:=hS.fr.size
 refine wp_seq ?_
 refine wp_symQ hS hG hK (fun p2=>[.v 5 (.pointer (some ⟨(p1 0).N,1,none⟩)),.l 6 (.string s) 0 1,.v 7 (.int .i64 (s.size:Int)),.v 8 (.bool true)]) (fun p2=>[(1,.pointer (some ⟨(p1 0).N,0,none⟩)),(2,.int .i64 0),(8,.bool true)]) (by kernel_rfl) (fun _ _=>by kernel_rfl) (fun _=>by kernel_rfl) (fun _=>by kernel_rfl) (fun p2=>?_) (fun p2 W2 T hF hK=>?_)
 ·refine ok_v (by kernel_rfl) ?_
  refine ok_L (by kernel_rfl) (by kernel_rfl) (by kernel_rfl) ?_
  refine ok_v (by kernel_rfl) ?_
  refine ok_vb (decide_eq_true (show (s.size:Int) > 65536 by omega)) (by kernel_rfl) ?_
  exact ok_nil
 replace hS:=SymF.fb hS hF [0] [⟨(p1 0).N,#[.bool g,.string s,.int .i64 x],23,true⟩] (by kernel_rfl) (by kernel_rfl)
 replace hG:=hF.gx
 clear hF
 have z2:=hS.fr.size
 refine wp_cond_true (hK.ev 8 (by kernel_rfl) _ (by kernel_rfl)) ?_
 refine wp_symQ hS hG hK (fun p3=>[.v 2 (.int .i64 4)]) (fun p3=>[(1,.pointer (some ⟨(p1 0).N,0,none⟩)),(2,.int .i64 4),(8,.bool true)]) (by kernel_rfl) (fun _ _=>by kernel_rfl) (fun _=>by kernel_rfl) (fun _=>by kernel_rfl) (fun p3=>?_) (fun p3 W3 T hF hK=>?_)
 ·refine ok_v (by kernel_rfl) ?_
  exact ok_nil
 replace hS:=SymF.fb hS hF [0] [⟨(p1 0).N,#[.bool g,.string s,.int .i64 x],23,true⟩] (by kernel_rfl) (by kernel_rfl)
 replace hG:=hF.gx
 clear hF
 have z3:=hS.fr.size
 refine wp_ret ?_
 refine then_r ?_
 exact sym_end hS hK (.int .i64 4) [] [] (by kernel_rfl) (by kernel_rfl) ⟨rfl,hS.fr⟩
theorem dck_z0 (w:World) (g:Bool) (s:ByteArray) (x:Int) (_hm:s.size≤65536) (hz:s.size = 0) (hx:x = 0) :
  Calls Tryd.prog 11 #[.agg #[.bool g,.string s,.int .i64 x]] w fun en w'=>en = .returned (.int .i64 0)∧Below w.heap.size w w':=by
 refine calls_sym Tryd.func11 rfl (by kernel_rfl) fun T hK=>?_
 replace hK:Kn T _ [(0,.agg #[.bool g,.string s,.int .i64 x])]:=hK
 have hS:=Fb.begin w
 have hG:GsAt [] w:=trivial
 refine wp_symQ hS hG hK (fun p1=>[.n 1 #[.bool g,.string s,.int .i64 x] 23,.v 2 (.int .i64 0)]) (fun p1=>[(1,.pointer (some ⟨(p1 0).N,0,none⟩)),(2,.int .i64 0)]) (by kernel_rfl) (fun _ _=>by kernel_rfl) (fun _=>by kernel_rfl) (fun _=>by kernel_rfl) (fun p1=>?_) (fun p1 W1 T hF hK=>?_)
 ·refine ok_n (fun _=>by kernel_rfl) ?_
  refine ok_v (by kernel_rfl) ?_
  exact ok_nil
 replace hS:=SymF.fb hS hF [1000] [⟨(p1 0).N,#[.bool g,.string s,.int .i64 x],23,true⟩] (by kernel_rfl) (by kernel_rfl)
 replace hG:=hF.gx
 clear hF
 have z1:=hS.fr.size
 refine wp_seq ?_
 refine wp_symQ hS hG hK (fun p2=>[.v 5 (.pointer (some ⟨(p1 0).N,1,none⟩)),.l 6 (.string s) 0 1,.v 7 (.int .i64 (s.size:Int)),.v 8 (.bool false)]) (fun p2=>[(1,.pointer (some ⟨(p1 0).N,0,none⟩)),(2,.int .i64 0),(8,.bool false)]) (by kernel_rfl) (fun _ _=>by kernel_rfl) (fun _=>by kernel_rfl) (fun _=>by kernel_rfl) (fun p2=>?_) (fun p2 W2 T hF hK=>?_)
 ·refine ok_v (by kernel_rfl) ?_
  refine ok_L (by kernel_rfl) (by kernel_rfl) (by kernel_rfl) ?_
  refine ok_v (by kernel_rfl) ?_
  refine ok_vb (decide_eq_false (show ¬ (s.size:Int) > 65536 by omega)) (by kernel_rfl) ?_
  exact ok_nil
 replace hS:=SymF.fb hS hF [0] [⟨(p1 0).N,#[.bool g,.string s,.int .i64 x],23,true⟩] (by kernel_rfl) (by kernel_rfl)
 replace hG:=hF.gx
 clear hF
 have z2:=hS.fr.size
 refine wp_cond_false (hK.ev 8 (by kernel_rfl) _ (by kernel_rfl)) ?_
 refine wp_skip ?_
 refine then_n ?_
 refine wp_seq ?_
 refine wp_symQ hS hG hK (fun p3=>[.l 9 (.agg #[.bool g,.string s,.int .i64 x]) 0 0,.c (some 10) (cV (.bool true))]) (fun p3=>[(1,.pointer (some ⟨(p1 0).N,0,none⟩)),(2,.int .i64 0),(8,.bool false),(10,.bool true)]) (by kernel_rfl) (fun _ _=>by kernel_rfl) (fun _=>by kernel_rfl) (fun _=>by kernel_rfl) (fun p3=>?_) (fun p3 W3 T hF hK=>?_)
 ·refine ok_L (by kernel_rfl) (by kernel_rfl) (by kernel_rfl) ?_
  refine ok_c (fun W cx=>as_v (isN_t _ g s x hz)) (by kernel_rfl) ?_
  exact ok_nil
 replace hS:=SymF.fb hS hF [0] [⟨(p1 0).N,#[.bool g,.string s,.int .i64 x],23,true⟩] (by kernel_rfl) (by kernel_rfl)
 replace hG:=hF.gx
 clear hF
 have z3:=hS.fr.size
 refine wp_cond_true (hK.ev 10 (by kernel_rfl) _ (by kernel_rfl)) ?_
 refine wp_seq ?_
 refine wp_symQ hS hG hK (fun p4=>[.v 11 (.pointer (some ⟨(p1 0).N,2,none⟩)),.l 12 (.int .i64 x) 0 2,.v 13 (.bool false)]) (fun p4=>[(1,.pointer (some ⟨(p1 0).N,0,none⟩)),(2,.int .i64 0),(8,.bool false),(10,.bool true),(13,.bool false)]) (by kernel_rfl) (fun _ _=>by kernel_rfl) (fun _=>by kernel_rfl) (fun _=>by kernel_rfl) (fun p4=>?_) (fun p4 W4 T hF hK=>?_)
 ·refine ok_v (by kernel_rfl) ?_
  refine ok_L (by kernel_rfl) (by kernel_rfl) (by kernel_rfl) ?_
  refine ok_vb ((bne_eq_false_iff_eq.2 (show x = 0 by omega))) (by kernel_rfl) ?_
  exact ok_nil
 replace hS:=SymF.fb hS hF [0] [⟨(p1 0).N,#[.bool g,.string s,.int .i64 x],23,true⟩] (by kernel_rfl) (by kernel_rfl)
 replace hG:=hF.gx
 clear hF
 have z4:=hS.fr.size
 refine wp_cond_false (hK.ev 13 (by kernel_rfl) _ (by kernel_rfl)) ?_
 refine wp_skip ?_
 refine then_n ?_
 refine wp_symQ hS hG hK (fun p5=>[.v 2 (.int .i64 0)]) (fun p5=>[(1,.pointer (some ⟨(p1 0).N,0,none⟩)),(2,.int .i64 0),(8,.bool false),(10,.bool true),(13,.bool false)]) (by kernel_rfl) (fun _ _=>by kernel_rfl) (fun _=>by kernel_rfl) (fun _=>by kernel_rfl) (fun p5=>?_) (fun p5 W5 T hF hK=>?_)
 ·refine ok_v (by kernel_rfl) ?_
  exact ok_nil
 replace hS:=SymF.fb hS hF [0] [⟨(p1 0).N,#[.bool g,.string s,.int .i64 x],23,true⟩] (by kernel_rfl) (by kernel_rfl)
 replace hG:=hF.gx
 clear hF
 have z5:=hS.fr.size
 refine wp_ret ?_
 refine then_r ?_
 exact sym_end hS hK (.int .i64 0) [] [] (by kernel_rfl) (by kernel_rfl) ⟨rfl,hS.fr⟩
theorem dck_z1 (w:World) (g:Bool) (s:ByteArray) (x:Int) (_hm:s.size≤65536) (hz:s.size = 0) (hx:x≠0) :
  Calls Tryd.prog 11 #[.agg #[.bool g,.string s,.int .i64 x]] w fun en w'=>en = .returned (.int .i64 100)∧Below w.heap.size w w':=by
 refine calls_sym Tryd.func11 rfl (by kernel_rfl) fun T hK=>?_
 replace hK:Kn T _ [(0,.agg #[.bool g,.string s,.int .i64 x])]:=hK
 have hS:=Fb.begin w
 have hG:GsAt [] w:=trivial
 refine wp_symQ hS hG hK (fun p1=>[.n 1 #[.bool g,.string s,.int .i64 x] 23,.v 2 (.int .i64 0)]) (fun p1=>[(1,.pointer (some ⟨(p1 0).N,0,none⟩)),(2,.int .i64 0)]) (by kernel_rfl) (fun _ _=>by kernel_rfl) (fun _=>by kernel_rfl) (fun _=>by kernel_rfl) (fun p1=>?_) (fun p1 W1 T hF hK=>?_)
 ·refine ok_n (fun _=>by kernel_rfl) ?_
  refine ok_v (by kernel_rfl) ?_
  exact ok_nil
 replace hS:=SymF.fb hS hF [1000] [⟨(p1 0).N,#[.bool g,.string s,.int .i64 x],23,true⟩] (by kernel_rfl) (by kernel_rfl)
 replace hG:=hF.gx
 clear hF
 have z1:=hS.fr.size
 refine wp_seq ?_
 refine wp_symQ hS hG hK (fun p2=>[.v 5 (.pointer (some ⟨(p1 0).N,1,none⟩)),.l 6 (.string s) 0 1,.v 7 (.int .i64 (s.size:Int)),.v 8 (.bool false)]) (fun p2=>[(1,.pointer (some ⟨(p1 0).N,0,none⟩)),(2,.int .i64 0),(8,.bool false)]) (by kernel_rfl) (fun _ _=>by kernel_rfl) (fun _=>by kernel_rfl) (fun _=>by kernel_rfl) (fun p2=>?_) (fun p2 W2 T hF hK=>?_)
 ·refine ok_v (by kernel_rfl) ?_
  refine ok_L (by kernel_rfl) (by kernel_rfl) (by kernel_rfl) ?_
  refine ok_v (by kernel_rfl) ?_
  refine ok_vb (decide_eq_false (show ¬ (s.size:Int) > 65536 by omega)) (by kernel_rfl) ?_
  exact ok_nil
 replace hS:=SymF.fb hS hF [0] [⟨(p1 0).N,#[.bool g,.string s,.int .i64 x],23,true⟩] (by kernel_rfl) (by kernel_rfl)
 replace hG:=hF.gx
 clear hF
 have z2:=hS.fr.size
 refine wp_cond_false (hK.ev 8 (by kernel_rfl) _ (by kernel_rfl)) ?_
 refine wp_skip ?_
 refine then_n ?_
 refine wp_seq ?_
 refine wp_symQ hS hG hK (fun p3=>[.l 9 (.agg #[.bool g,.string s,.int .i64 x]) 0 0,.c (some 10) (cV (.bool true))]) (fun p3=>[(1,.pointer (some ⟨(p1 0).N,0,none⟩)),(2,.int .i64 0),(8,.bool false),(10,.bool true)]) (by kernel_rfl) (fun _ _=>by kernel_rfl) (fun _=>by kernel_rfl) (fun _=>by kernel_rfl) (fun p3=>?_) (fun p3 W3 T hF hK=>?_)
 ·refine ok_L (by kernel_rfl) (by kernel_rfl) (by kernel_rfl) ?_
  refine ok_c (fun W cx=>as_v (isN_t _ g s x hz)) (by kernel_rfl) ?_
  exact ok_nil
 replace hS:=SymF.fb hS hF [0] [⟨(p1 0).N,#[.bool g,.string s,.int .i64 x],23,true⟩] (by kernel_rfl) (by kernel_rfl)
 replace hG:=hF.gx
 clear hF
 have z3:=hS.fr.size
 refine wp_cond_true (hK.ev 10 (by kernel_rfl) _ (by kernel_rfl)) ?_
 refine wp_seq ?_
 refine wp_symQ hS hG hK (fun p4=>[.v 11 (.pointer (some ⟨(p1 0).N,2,none⟩)),.l 12 (.int .i64 x) 0 2,.v 13 (.bool true)]) (fun p4=>[(1,.pointer (some ⟨(p1 0).N,0,none⟩)),(2,.int .i64 0),(8,.bool false),(10,.bool true),(13,.bool true)]) (by kernel_rfl) (fun _ _=>by kernel_rfl) (fun _=>by kernel_rfl) (fun _=>by kernel_rfl) (fun p4=>?_) (fun p4 W4 T hF hK=>?_)
 ·refine ok_v (by kernel_rfl) ?_
  refine ok_L (by kernel_rfl) (by kernel_rfl) (by kernel_rfl) ?_
  refine ok_vb (bne_iff_ne.2 (show x≠0 by omega)) (by kernel_rfl) ?_
  exact ok_nil
 replace hS:=SymF.fb hS hF [0] [⟨(p1 0).N,#[.bool g,.string s,.int .i64 x],23,true⟩] (by kernel_rfl) (by kernel_rfl)
 replace hG:=hF.gx
 clear hF
 have z4:=hS.fr.size
 refine wp_cond_true (hK.ev 13 (by kernel_rfl) _ (by kernel_rfl)) ?_
 refine wp_symQ hS hG hK (fun p5=>[.v 2 (.int .i64 100)]) (fun p5=>[(1,.pointer (some ⟨(p1 0).N,0,none⟩)),(2,.int .i64 100),(8,.bool false),(10,.bool true),(13,.bool true)]) (by kernel_rfl) (fun _ _=>by kernel_rfl) (fun _=>by kernel_rfl) (fun _=>by kernel_rfl) (fun p5=>?_) (fun p5 W5 T hF hK=>?_)
 ·refine ok_v (by kernel_rfl) ?_
  exact ok_nil
 replace hS:=SymF.fb hS hF [0] [⟨(p1 0).N,#[.bool g,.string s,.int .i64 x],23,true⟩] (by kernel_rfl) (by kernel_rfl)
 replace hG:=hF.gx
 clear hF
 have z5:=hS.fr.size
 refine wp_ret ?_
 refine then_r ?_
 refine then_r ?_
 exact sym_end hS hK (.int .i64 100) [] [] (by kernel_rfl) (by kernel_rfl) ⟨rfl,hS.fr⟩
theorem dck_b1 (w:World) (g:Bool) (s:ByteArray) (x:Int) (f t:Nat) (hm:s.size≤65536) (hz:s.size≠0) (HE:Hid (∀ W:World,Calls Tryd.prog 24 #[.string s] W fun e W'=>e = .returned (.tuple #[.int .i64 (f:Int),.int .i64 (t:Int)])∧Below W.heap.size W W')) (hf:0 < f) :
  Calls Tryd.prog 11 #[.agg #[.bool g,.string s,.int .i64 x]] w fun en w'=>en = .returned (.int .i64 100)∧Below w.heap.size w w':=by
 refine calls_sym Tryd.func11 rfl (by kernel_rfl) fun T hK=>?_
 replace hK:Kn T _ [(0,.agg #[.bool g,.string s,.int .i64 x])]:=hK
 have hS:=Fb.begin w
 have hG:GsAt [] w:=trivial
 refine wp_symQ hS hG hK (fun p1=>[.n 1 #[.bool g,.string s,.int .i64 x] 23,.v 2 (.int .i64 0)]) (fun p1=>[(1,.pointer (some ⟨(p1 0).N,0,none⟩)),(2,.int .i64 0)]) (by kernel_rfl) (fun _ _=>by kernel_rfl) (fun _=>by kernel_rfl) (fun _=>by kernel_rfl) (fun p1=>?_) (fun p1 W1 T hF hK=>?_)
 ·refine ok_n (fun _=>by kernel_rfl) ?_
  refine ok_v (by kernel_rfl) ?_
  exact ok_nil
 replace hS:=SymF.fb hS hF [1000] [⟨(p1 0).N,#[.bool g,.string s,.int .i64 x],23,true⟩] (by kernel_rfl) (by kernel_rfl)
 replace hG:=hF.gx
 clear hF
 have z1:=hS.fr.size
 refine wp_seq ?_
 refine wp_symQ hS hG hK (fun p2=>[.v 5 (.pointer (some ⟨(p1 0).N,1,none⟩)),.l 6 (.string s) 0 1,.v 7 (.int .i64 (s.size:Int)),.v 8 (.bool false)]) (fun p2=>[(1,.pointer (some ⟨(p1 0).N,0,none⟩)),(2,.int .i64 0),(8,.bool false)]) (by kernel_rfl) (fun _ _=>by kernel_rfl) (fun _=>by kernel_rfl) (fun _=>by kernel_rfl) (fun p2=>?_) (fun p2 W2 T hF hK=>?_)
 ·refine ok_v (by kernel_rfl) ?_
  refine ok_L (by kernel_rfl) (by kernel_rfl) (by kernel_rfl) ?_
  refine ok_v (by kernel_rfl) ?_
  refine ok_vb (decide_eq_false (show ¬ (s.size:Int) > 65536 by omega)) (by kernel_rfl) ?_
  exact ok_nil
 replace hS:=SymF.fb hS hF [0] [⟨(p1 0).N,#[.bool g,.string s,.int .i64 x],23,true⟩] (by kernel_rfl) (by kernel_rfl)
 replace hG:=hF.gx
 clear hF
 have z2:=hS.fr.size
 refine wp_cond_false (hK.ev 8 (by kernel_rfl) _ (by kernel_rfl)) ?_
 refine wp_skip ?_
 refine then_n ?_
 refine wp_seq ?_
 refine wp_symQ hS hG hK (fun p3=>[.l 9 (.agg #[.bool g,.string s,.int .i64 x]) 0 0,.c (some 10) (cV (.bool false))]) (fun p3=>[(1,.pointer (some ⟨(p1 0).N,0,none⟩)),(2,.int .i64 0),(8,.bool false),(10,.bool false)]) (by kernel_rfl) (fun _ _=>by kernel_rfl) (fun _=>by kernel_rfl) (fun _=>by kernel_rfl) (fun p3=>?_) (fun p3 W3 T hF hK=>?_)
 ·refine ok_L (by kernel_rfl) (by kernel_rfl) (by kernel_rfl) ?_
  refine ok_c (fun W cx=>as_v (isN_f _ g s x hz)) (by kernel_rfl) ?_
  exact ok_nil
 replace hS:=SymF.fb hS hF [0] [⟨(p1 0).N,#[.bool g,.string s,.int .i64 x],23,true⟩] (by kernel_rfl) (by kernel_rfl)
 replace hG:=hF.gx
 clear hF
 have z3:=hS.fr.size
 refine wp_cond_false (hK.ev 10 (by kernel_rfl) _ (by kernel_rfl)) ?_
 refine wp_skip ?_
 refine then_n ?_
 refine wp_symQ hS hG hK (fun p4=>[.v 15 (.pointer (some ⟨(p1 0).N,1,none⟩)),.l 16 (.string s) 0 1,.c (some 17) (cV (.tuple #[.int .i64 (f:Int),.int .i64 (t:Int)])),.v 14 (.tuple #[.int .i64 (f:Int),.int .i64 (t:Int)]),.v 18 (.int .i64 (f:Int)),.v 19 (.int .i64 (t:Int)),.v 3 (.int .i64 (f:Int)),.v 4 (.int .i64 (t:Int))]) (fun p4=>[(1,.pointer (some ⟨(p1 0).N,0,none⟩)),(2,.int .i64 0),(3,.int .i64 (f:Int)),(4,.int .i64 (t:Int)),(8,.bool false),(10,.bool false)]) (by kernel_rfl) (fun _ _=>by kernel_rfl) (fun _=>by kernel_rfl) (fun _=>by kernel_rfl) (fun p4=>?_) (fun p4 W4 T hF hK=>?_)
 ·refine ok_v (by kernel_rfl) ?_
  refine ok_L (by kernel_rfl) (by kernel_rfl) (by kernel_rfl) ?_
  refine ok_c (fun W cx=>as_v (unhide HE _)) (by kernel_rfl) ?_
  iterate 5 refine ok_v (by kernel_rfl) ?_
  exact ok_nil
 replace hS:=SymF.fb hS hF [0] [⟨(p1 0).N,#[.bool g,.string s,.int .i64 x],23,true⟩] (by kernel_rfl) (by kernel_rfl)
 replace hG:=hF.gx
 clear hF
 have z4:=hS.fr.size
 refine wp_seq ?_
 refine wp_symQ hS hG hK (fun p5=>[.v 20 (.int .i64 (f:Int)),.v 21 (.bool true),.v 22 (.bool true),.k (some 23),.k (some 24),.k (some 25),.k (some 26),.k (some 27),.v 28 (.bool true),.v 29 (.bool true),.k (some 30),.k (some 31),.k (some 32),.k (some 33),.v 34 (.bool true),.v 35 (.bool true),.k (some 36),.k (some 37),.k (some 38),.v 39 (.bool true)]) (fun p5=>[(1,.pointer (some ⟨(p1 0).N,0,none⟩)),(2,.int .i64 0),(8,.bool false),(10,.bool false),(39,.bool true)]) (by kernel_rfl) (fun _ _=>by kernel_rfl) (fun _=>by kernel_rfl) (fun _=>by kernel_rfl) (fun p5=>?_) (fun p5 W5 T hF hK=>?_)
 ·refine ok_v (by kernel_rfl) ?_
  refine ok_vb (decide_eq_true (show (f:Int) > 0 by omega)) (by kernel_rfl) ?_
  refine ok_v (by kernel_rfl) ?_
  iterate 5 refine ok_K (by kernel_rfl) ?_
  iterate 2 refine ok_v (by kernel_rfl) ?_
  iterate 4 refine ok_K (by kernel_rfl) ?_
  iterate 2 refine ok_v (by kernel_rfl) ?_
  iterate 3 refine ok_K (by kernel_rfl) ?_
  refine ok_v (by kernel_rfl) ?_
  exact ok_nil
 replace hS:=SymF.fb hS hF [0] [⟨(p1 0).N,#[.bool g,.string s,.int .i64 x],23,true⟩] (by kernel_rfl) (by kernel_rfl)
 replace hG:=hF.gx
 clear hF
 have z5:=hS.fr.size
 refine wp_cond_true (hK.ev 39 (by kernel_rfl) _ (by kernel_rfl)) ?_
 refine wp_symQ hS hG hK (fun p6=>[.v 2 (.int .i64 100)]) (fun p6=>[(1,.pointer (some ⟨(p1 0).N,0,none⟩)),(2,.int .i64 100),(8,.bool false),(10,.bool false),(39,.bool true)]) (by kernel_rfl) (fun _ _=>by kernel_rfl) (fun _=>by kernel_rfl) (fun _=>by kernel_rfl) (fun p6=>?_) (fun p6 W6 T hF hK=>?_)
 ·refine ok_v (by kernel_rfl) ?_
  exact ok_nil
 replace hS:=SymF.fb hS hF [0] [⟨(p1 0).N,#[.bool g,.string s,.int .i64 x],23,true⟩] (by kernel_rfl) (by kernel_rfl)
 replace hG:=hF.gx
 clear hF
 have z6:=hS.fr.size
 refine wp_ret ?_
 refine then_r ?_
 exact sym_end hS hK (.int .i64 100) [] [] (by kernel_rfl) (by kernel_rfl) ⟨rfl,hS.fr⟩
theorem dck_b2 (w:World) (g:Bool) (s:ByteArray) (x:Int) (f t:Nat) (hm:s.size≤65536) (hz:s.size≠0) (HE:Hid (∀ W:World,Calls Tryd.prog 24 #[.string s] W fun e W'=>e = .returned (.tuple #[.int .i64 (f:Int),.int .i64 (t:Int)])∧Below W.heap.size W W')) (hf:f = 0) (ht:t < s.size) :
  Calls Tryd.prog 11 #[.agg #[.bool g,.string s,.int .i64 x]] w fun en w'=>en = .returned (.int .i64 100)∧Below w.heap.size w w':=by
 refine calls_sym Tryd.func11 rfl (by kernel_rfl) fun T hK=>?_
 replace hK:Kn T _ [(0,.agg #[.bool g,.string s,.int .i64 x])]:=hK
 have hS:=Fb.begin w
 have hG:GsAt [] w:=trivial
 refine wp_symQ hS hG hK (fun p1=>[.n 1 #[.bool g,.string s,.int .i64 x] 23,.v 2 (.int .i64 0)]) (fun p1=>[(1,.pointer (some ⟨(p1 0).N,0,none⟩)),(2,.int .i64 0)]) (by kernel_rfl) (fun _ _=>by kernel_rfl) (fun _=>by kernel_rfl) (fun _=>by kernel_rfl) (fun p1=>?_) (fun p1 W1 T hF hK=>?_)
 ·refine ok_n (fun _=>by kernel_rfl) ?_
  refine ok_v (by kernel_rfl) ?_
  exact ok_nil
 replace hS:=SymF.fb hS hF [1000] [⟨(p1 0).N,#[.bool g,.string s,.int .i64 x],23,true⟩] (by kernel_rfl) (by kernel_rfl)
 replace hG:=hF.gx
 clear hF
 have z1:=hS.fr.size
 refine wp_seq ?_
 refine wp_symQ hS hG hK (fun p2=>[.v 5 (.pointer (some ⟨(p1 0).N,1,none⟩)),.l 6 (.string s) 0 1,.v 7 (.int .i64 (s.size:Int)),.v 8 (.bool false)]) (fun p2=>[(1,.pointer (some ⟨(p1 0).N,0,none⟩)),(2,.int .i64 0),(8,.bool false)]) (by kernel_rfl) (fun _ _=>by kernel_rfl) (fun _=>by kernel_rfl) (fun _=>by kernel_rfl) (fun p2=>?_) (fun p2 W2 T hF hK=>?_)
 ·refine ok_v (by kernel_rfl) ?_
  refine ok_L (by kernel_rfl) (by kernel_rfl) (by kernel_rfl) ?_
  refine ok_v (by kernel_rfl) ?_
  refine ok_vb (decide_eq_false (show ¬ (s.size:Int) > 65536 by omega)) (by kernel_rfl) ?_
  exact ok_nil
 replace hS:=SymF.fb hS hF [0] [⟨(p1 0).N,#[.bool g,.string s,.int .i64 x],23,true⟩] (by kernel_rfl) (by kernel_rfl)
 replace hG:=hF.gx
 clear hF
 have z2:=hS.fr.size
 refine wp_cond_false (hK.ev 8 (by kernel_rfl) _ (by kernel_rfl)) ?_
 refine wp_skip ?_
 refine then_n ?_
 refine wp_seq ?_
 refine wp_symQ hS hG hK (fun p3=>[.l 9 (.agg #[.bool g,.string s,.int .i64 x]) 0 0,.c (some 10) (cV (.bool false))]) (fun p3=>[(1,.pointer (some ⟨(p1 0).N,0,none⟩)),(2,.int .i64 0),(8,.bool false),(10,.bool false)]) (by kernel_rfl) (fun _ _=>by kernel_rfl) (fun _=>by kernel_rfl) (fun _=>by kernel_rfl) (fun p3=>?_) (fun p3 W3 T hF hK=>?_)
 ·refine ok_L (by kernel_rfl) (by kernel_rfl) (by kernel_rfl) ?_
  refine ok_c (fun W cx=>as_v (isN_f _ g s x hz)) (by kernel_rfl) ?_
  exact ok_nil
 replace hS:=SymF.fb hS hF [0] [⟨(p1 0).N,#[.bool g,.string s,.int .i64 x],23,true⟩] (by kernel_rfl) (by kernel_rfl)
 replace hG:=hF.gx
 clear hF
 have z3:=hS.fr.size
 refine wp_cond_false (hK.ev 10 (by kernel_rfl) _ (by kernel_rfl)) ?_
 refine wp_skip ?_
 refine then_n ?_
 refine wp_symQ hS hG hK (fun p4=>[.v 15 (.pointer (some ⟨(p1 0).N,1,none⟩)),.l 16 (.string s) 0 1,.c (some 17) (cV (.tuple #[.int .i64 (f:Int),.int .i64 (t:Int)])),.v 14 (.tuple #[.int .i64 (f:Int),.int .i64 (t:Int)]),.v 18 (.int .i64 (f:Int)),.v 19 (.int .i64 (t:Int)),.v 3 (.int .i64 (f:Int)),.v 4 (.int .i64 (t:Int))]) (fun p4=>[(1,.pointer (some ⟨(p1 0).N,0,none⟩)),(2,.int .i64 0),(3,.int .i64 (f:Int)),(4,.int .i64 (t:Int)),(8,.bool false),(10,.bool false)]) (by kernel_rfl) (fun _ _=>by kernel_rfl) (fun _=>by kernel_rfl) (fun _=>by kernel_rfl) (fun p4=>?_) (fun p4 W4 T hF hK=>?_)
 ·refine ok_v (by kernel_rfl) ?_
  refine ok_L (by kernel_rfl) (by kernel_rfl) (by kernel_rfl) ?_
  refine ok_c (fun W cx=>as_v (unhide HE _)) (by kernel_rfl) ?_
  iterate 5 refine ok_v (by kernel_rfl) ?_
  exact ok_nil
 replace hS:=SymF.fb hS hF [0] [⟨(p1 0).N,#[.bool g,.string s,.int .i64 x],23,true⟩] (by kernel_rfl) (by kernel_rfl)
 replace hG:=hF.gx
 clear hF
 have z4:=hS.fr.size
 refine wp_seq ?_
 refine wp_symQ hS hG hK (fun p5=>[.v 20 (.int .i64 (f:Int)),.v 21 (.bool false),.v 22 (.bool false),.v 23 (.int .i64 (t:Int)),.v 24 (.pointer (some ⟨(p1 0).N,1,none⟩)),.l 25 (.string s) 0 1,.v 26 (.int .i64 (s.size:Int)),.v 27 (.bool true),.v 28 (.bool true),.v 29 (.bool true),.k (some 30),.k (some 31),.k (some 32),.k (some 33),.v 34 (.bool true),.v 35 (.bool true),.k (some 36),.k (some 37),.k (some 38),.v 39 (.bool true)]) (fun p5=>[(1,.pointer (some ⟨(p1 0).N,0,none⟩)),(2,.int .i64 0),(8,.bool false),(10,.bool false),(39,.bool true)]) (by kernel_rfl) (fun _ _=>by kernel_rfl) (fun _=>by kernel_rfl) (fun _=>by kernel_rfl) (fun p5=>?_) (fun p5 W5 T hF hK=>?_)
 ·refine ok_v (by kernel_rfl) ?_
  refine ok_vb (decide_eq_false (show ¬ (f:Int) > 0 by omega)) (by kernel_rfl) ?_
  iterate 3 refine ok_v (by kernel_rfl) ?_
  refine ok_L (by kernel_rfl) (by kernel_rfl) (by kernel_rfl) ?_
  refine ok_v (by kernel_rfl) ?_
  refine ok_vb (decide_eq_true (show (t:Int) < (s.size:Int) by omega)) (by kernel_rfl) ?_
  iterate 2 refine ok_v (by kernel_rfl) ?_
  iterate 4 refine ok_K (by kernel_rfl) ?_
  iterate 2 refine ok_v (by kernel_rfl) ?_
  iterate 3 refine ok_K (by kernel_rfl) ?_
  refine ok_v (by kernel_rfl) ?_
  exact ok_nil
 replace hS:=SymF.fb hS hF [0] [⟨(p1 0).N,#[.bool g,.string s,.int .i64 x],23,true⟩] (by kernel_rfl) (by kernel_rfl)
 replace hG:=hF.gx
 clear hF
 have z5:=hS.fr.size
 refine wp_cond_true (hK.ev 39 (by kernel_rfl) _ (by kernel_rfl)) ?_
 refine wp_symQ hS hG hK (fun p6=>[.v 2 (.int .i64 100)]) (fun p6=>[(1,.pointer (some ⟨(p1 0).N,0,none⟩)),(2,.int .i64 100),(8,.bool false),(10,.bool false),(39,.bool true)]) (by kernel_rfl) (fun _ _=>by kernel_rfl) (fun _=>by kernel_rfl) (fun _=>by kernel_rfl) (fun p6=>?_) (fun p6 W6 T hF hK=>?_)
 ·refine ok_v (by kernel_rfl) ?_
  exact ok_nil
 replace hS:=SymF.fb hS hF [0] [⟨(p1 0).N,#[.bool g,.string s,.int .i64 x],23,true⟩] (by kernel_rfl) (by kernel_rfl)
 replace hG:=hF.gx
 clear hF
 have z6:=hS.fr.size
 refine wp_ret ?_
 refine then_r ?_
 exact sym_end hS hK (.int .i64 100) [] [] (by kernel_rfl) (by kernel_rfl) ⟨rfl,hS.fr⟩
theorem dck_b3 (w:World) (g:Bool) (s:ByteArray) (x:Int) (f t:Nat) (hm:s.size≤65536) (hz:s.size≠0) (HE:Hid (∀ W:World,Calls Tryd.prog 24 #[.string s] W fun e W'=>e = .returned (.tuple #[.int .i64 (f:Int),.int .i64 (t:Int)])∧Below W.heap.size W W')) (hf:f = 0) (ht:s.size≤t) (HA:Hid (∀ W:World,Calls Tryd.prog 25 #[.string s] W fun e W'=>e = .returned (.bool false)∧Below W.heap.size W W')) :
  Calls Tryd.prog 11 #[.agg #[.bool g,.string s,.int .i64 x]] w fun en w'=>en = .returned (.int .i64 100)∧Below w.heap.size w w':=by
 refine calls_sym Tryd.func11 rfl (by kernel_rfl) fun T hK=>?_
 replace hK:Kn T _ [(0,.agg #[.bool g,.string s,.int .i64 x])]:=hK
 have hS:=Fb.begin w
 have hG:GsAt [] w:=trivial
 refine wp_symQ hS hG hK (fun p1=>[.n 1 #[.bool g,.string s,.int .i64 x] 23,.v 2 (.int .i64 0)]) (fun p1=>[(1,.pointer (some ⟨(p1 0).N,0,none⟩)),(2,.int .i64 0)]) (by kernel_rfl) (fun _ _=>by kernel_rfl) (fun _=>by kernel_rfl) (fun _=>by kernel_rfl) (fun p1=>?_) (fun p1 W1 T hF hK=>?_)
 ·refine ok_n (fun _=>by kernel_rfl) ?_
  refine ok_v (by kernel_rfl) ?_
  exact ok_nil
 replace hS:=SymF.fb hS hF [1000] [⟨(p1 0).N,#[.bool g,.string s,.int .i64 x],23,true⟩] (by kernel_rfl) (by kernel_rfl)
 replace hG:=hF.gx
 clear hF
 have z1:=hS.fr.size
 refine wp_seq ?_
 refine wp_symQ hS hG hK (fun p2=>[.v 5 (.pointer (some ⟨(p1 0).N,1,none⟩)),.l 6 (.string s) 0 1,.v 7 (.int .i64 (s.size:Int)),.v 8 (.bool false)]) (fun p2=>[(1,.pointer (some ⟨(p1 0).N,0,none⟩)),(2,.int .i64 0),(8,.bool false)]) (by kernel_rfl) (fun _ _=>by kernel_rfl) (fun _=>by kernel_rfl) (fun _=>by kernel_rfl) (fun p2=>?_) (fun p2 W2 T hF hK=>?_)
 ·refine ok_v (by kernel_rfl) ?_
  refine ok_L (by kernel_rfl) (by kernel_rfl) (by kernel_rfl) ?_
  refine ok_v (by kernel_rfl) ?_
  refine ok_vb (decide_eq_false (show ¬ (s.size:Int) > 65536 by omega)) (by kernel_rfl) ?_
  exact ok_nil
 replace hS:=SymF.fb hS hF [0] [⟨(p1 0).N,#[.bool g,.string s,.int .i64 x],23,true⟩] (by kernel_rfl) (by kernel_rfl)
 replace hG:=hF.gx
 clear hF
 have z2:=hS.fr.size
 refine wp_cond_false (hK.ev 8 (by kernel_rfl) _ (by kernel_rfl)) ?_
 refine wp_skip ?_
 refine then_n ?_
 refine wp_seq ?_
 refine wp_symQ hS hG hK (fun p3=>[.l 9 (.agg #[.bool g,.string s,.int .i64 x]) 0 0,.c (some 10) (cV (.bool false))]) (fun p3=>[(1,.pointer (some ⟨(p1 0).N,0,none⟩)),(2,.int .i64 0),(8,.bool false),(10,.bool false)]) (by kernel_rfl) (fun _ _=>by kernel_rfl) (fun _=>by kernel_rfl) (fun _=>by kernel_rfl) (fun p3=>?_) (fun p3 W3 T hF hK=>?_)
 ·refine ok_L (by kernel_rfl) (by kernel_rfl) (by kernel_rfl) ?_
  refine ok_c (fun W cx=>as_v (isN_f _ g s x hz)) (by kernel_rfl) ?_
  exact ok_nil
 replace hS:=SymF.fb hS hF [0] [⟨(p1 0).N,#[.bool g,.string s,.int .i64 x],23,true⟩] (by kernel_rfl) (by kernel_rfl)
 replace hG:=hF.gx
 clear hF
 have z3:=hS.fr.size
 refine wp_cond_false (hK.ev 10 (by kernel_rfl) _ (by kernel_rfl)) ?_
 refine wp_skip ?_
 refine then_n ?_
 refine wp_symQ hS hG hK (fun p4=>[.v 15 (.pointer (some ⟨(p1 0).N,1,none⟩)),.l 16 (.string s) 0 1,.c (some 17) (cV (.tuple #[.int .i64 (f:Int),.int .i64 (t:Int)])),.v 14 (.tuple #[.int .i64 (f:Int),.int .i64 (t:Int)]),.v 18 (.int .i64 (f:Int)),.v 19 (.int .i64 (t:Int)),.v 3 (.int .i64 (f:Int)),.v 4 (.int .i64 (t:Int))]) (fun p4=>[(1,.pointer (some ⟨(p1 0).N,0,none⟩)),(2,.int .i64 0),(3,.int .i64 (f:Int)),(4,.int .i64 (t:Int)),(8,.bool false),(10,.bool false)]) (by kernel_rfl) (fun _ _=>by kernel_rfl) (fun _=>by kernel_rfl) (fun _=>by kernel_rfl) (fun p4=>?_) (fun p4 W4 T hF hK=>?_)
 ·refine ok_v (by kernel_rfl) ?_
  refine ok_L (by kernel_rfl) (by kernel_rfl) (by kernel_rfl) ?_
  refine ok_c (fun W cx=>as_v (unhide HE _)) (by kernel_rfl) ?_
  iterate 5 refine ok_v (by kernel_rfl) ?_
  exact ok_nil
 replace hS:=SymF.fb hS hF [0] [⟨(p1 0).N,#[.bool g,.string s,.int .i64 x],23,true⟩] (by kernel_rfl) (by kernel_rfl)
 replace hG:=hF.gx
 clear hF
 have z4:=hS.fr.size
 refine wp_seq ?_
 refine wp_symQ hS hG hK (fun p5=>[.v 20 (.int .i64 (f:Int)),.v 21 (.bool false),.v 22 (.bool false),.v 23 (.int .i64 (t:Int)),.v 24 (.pointer (some ⟨(p1 0).N,1,none⟩)),.l 25 (.string s) 0 1,.v 26 (.int .i64 (s.size:Int)),.v 27 (.bool false),.v 28 (.bool false),.v 29 (.bool false),.v 30 (.pointer (some ⟨(p1 0).N,1,none⟩)),.l 31 (.string s) 0 1,.c (some 32) (cV (.bool false)),.v 33 (.bool true),.v 34 (.bool true),.v 35 (.bool true),.k (some 36),.k (some 37),.k (some 38),.v 39 (.bool true)]) (fun p5=>[(1,.pointer (some ⟨(p1 0).N,0,none⟩)),(2,.int .i64 0),(8,.bool false),(10,.bool false),(39,.bool true)]) (by kernel_rfl) (fun _ _=>by kernel_rfl) (fun _=>by kernel_rfl) (fun _=>by kernel_rfl) (fun p5=>?_) (fun p5 W5 T hF hK=>?_)
 ·refine ok_v (by kernel_rfl) ?_
  refine ok_vb (decide_eq_false (show ¬ (f:Int) > 0 by omega)) (by kernel_rfl) ?_
  iterate 3 refine ok_v (by kernel_rfl) ?_
  refine ok_L (by kernel_rfl) (by kernel_rfl) (by kernel_rfl) ?_
  refine ok_v (by kernel_rfl) ?_
  refine ok_vb (decide_eq_false (show ¬ (t:Int) < (s.size:Int) by omega)) (by kernel_rfl) ?_
  iterate 3 refine ok_v (by kernel_rfl) ?_
  refine ok_L (by kernel_rfl) (by kernel_rfl) (by kernel_rfl) ?_
  refine ok_c (fun W cx=>as_v (unhide HA _)) (by kernel_rfl) ?_
  iterate 3 refine ok_v (by kernel_rfl) ?_
  iterate 3 refine ok_K (by kernel_rfl) ?_
  refine ok_v (by kernel_rfl) ?_
  exact ok_nil
 replace hS:=SymF.fb hS hF [0] [⟨(p1 0).N,#[.bool g,.string s,.int .i64 x],23,true⟩] (by kernel_rfl) (by kernel_rfl)
 replace hG:=hF.gx
 clear hF
 have z5:=hS.fr.size
 refine wp_cond_true (hK.ev 39 (by kernel_rfl) _ (by kernel_rfl)) ?_
 refine wp_symQ hS hG hK (fun p6=>[.v 2 (.int .i64 100)]) (fun p6=>[(1,.pointer (some ⟨(p1 0).N,0,none⟩)),(2,.int .i64 100),(8,.bool false),(10,.bool false),(39,.bool true)]) (by kernel_rfl) (fun _ _=>by kernel_rfl) (fun _=>by kernel_rfl) (fun _=>by kernel_rfl) (fun p6=>?_) (fun p6 W6 T hF hK=>?_)
 ·refine ok_v (by kernel_rfl) ?_
  exact ok_nil
 replace hS:=SymF.fb hS hF [0] [⟨(p1 0).N,#[.bool g,.string s,.int .i64 x],23,true⟩] (by kernel_rfl) (by kernel_rfl)
 replace hG:=hF.gx
 clear hF
 have z6:=hS.fr.size
 refine wp_ret ?_
 refine then_r ?_
 exact sym_end hS hK (.int .i64 100) [] [] (by kernel_rfl) (by kernel_rfl) ⟨rfl,hS.fr⟩
theorem dck_b4 (w:World) (g:Bool) (s:ByteArray) (x:Int) (f t:Nat) (hm:s.size≤65536) (hz:s.size≠0) (HE:Hid (∀ W:World,Calls Tryd.prog 24 #[.string s] W fun e W'=>e = .returned (.tuple #[.int .i64 (f:Int),.int .i64 (t:Int)])∧Below W.heap.size W W')) (hf:f = 0) (ht:s.size≤t) (HA:Hid (∀ W:World,Calls Tryd.prog 25 #[.string s] W fun e W'=>e = .returned (.bool true)∧Below W.heap.size W W')) (HB:Hid (∀ W:World,Calls Tryd.prog 26 #[.int .i64 x] W fun e W'=>e = .returned (.bool true)∧Below W.heap.size W W')) :
  Calls Tryd.prog 11 #[.agg #[.bool g,.string s,.int .i64 x]] w fun en w'=>en = .returned (.int .i64 100)∧Below w.heap.size w w':=by
 refine calls_sym Tryd.func11 rfl (by kernel_rfl) fun T hK=>?_
 replace hK:Kn T _ [(0,.agg #[.bool g,.string s,.int .i64 x])]:=hK
 have hS:=Fb.begin w
 have hG:GsAt [] w:=trivial
 refine wp_symQ hS hG hK (fun p1=>[.n 1 #[.bool g,.string s,.int .i64 x] 23,.v 2 (.int .i64 0)]) (fun p1=>[(1,.pointer (some ⟨(p1 0).N,0,none⟩)),(2,.int .i64 0)]) (by kernel_rfl) (fun _ _=>by kernel_rfl) (fun _=>by kernel_rfl) (fun _=>by kernel_rfl) (fun p1=>?_) (fun p1 W1 T hF hK=>?_)
 ·refine ok_n (fun _=>by kernel_rfl) ?_
  refine ok_v (by kernel_rfl) ?_
  exact ok_nil
 replace hS:=SymF.fb hS hF [1000] [⟨(p1 0).N,#[.bool g,.string s,.int .i64 x],23,true⟩] (by kernel_rfl) (by kernel_rfl)
 replace hG:=hF.gx
 clear hF
 have z1:=hS.fr.size
 refine wp_seq ?_
 refine wp_symQ hS hG hK (fun p2=>[.v 5 (.pointer (some ⟨(p1 0).N,1,none⟩)),.l 6 (.string s) 0 1,.v 7 (.int .i64 (s.size:Int)),.v 8 (.bool false)]) (fun p2=>[(1,.pointer (some ⟨(p1 0).N,0,none⟩)),(2,.int .i64 0),(8,.bool false)]) (by kernel_rfl) (fun _ _=>by kernel_rfl) (fun _=>by kernel_rfl) (fun _=>by kernel_rfl) (fun p2=>?_) (fun p2 W2 T hF hK=>?_)
 ·refine ok_v (by kernel_rfl) ?_
  refine ok_L (by kernel_rfl) (by kernel_rfl) (by kernel_rfl) ?_
  refine ok_v (by kernel_rfl) ?_
  refine ok_vb (decide_eq_false (show ¬ (s.size:Int) > 65536 by omega)) (by kernel_rfl) ?_
  exact ok_nil
 replace hS:=SymF.fb hS hF [0] [⟨(p1 0).N,#[.bool g,.string s,.int .i64 x],23,true⟩] (by kernel_rfl) (by kernel_rfl)
 replace hG:=hF.gx
 clear hF
 have z2:=hS.fr.size
 refine wp_cond_false (hK.ev 8 (by kernel_rfl) _ (by kernel_rfl)) ?_
 refine wp_skip ?_
 refine then_n ?_
 refine wp_seq ?_
 refine wp_symQ hS hG hK (fun p3=>[.l 9 (.agg #[.bool g,.string s,.int .i64 x]) 0 0,.c (some 10) (cV (.bool false))]) (fun p3=>[(1,.pointer (some ⟨(p1 0).N,0,none⟩)),(2,.int .i64 0),(8,.bool false),(10,.bool false)]) (by kernel_rfl) (fun _ _=>by kernel_rfl) (fun _=>by kernel_rfl) (fun _=>by kernel_rfl) (fun p3=>?_) (fun p3 W3 T hF hK=>?_)
 ·refine ok_L (by kernel_rfl) (by kernel_rfl) (by kernel_rfl) ?_
  refine ok_c (fun W cx=>as_v (isN_f _ g s x hz)) (by kernel_rfl) ?_
  exact ok_nil
 replace hS:=SymF.fb hS hF [0] [⟨(p1 0).N,#[.bool g,.string s,.int .i64 x],23,true⟩] (by kernel_rfl) (by kernel_rfl)
 replace hG:=hF.gx
 clear hF
 have z3:=hS.fr.size
 refine wp_cond_false (hK.ev 10 (by kernel_rfl) _ (by kernel_rfl)) ?_
 refine wp_skip ?_
 refine then_n ?_
 refine wp_symQ hS hG hK (fun p4=>[.v 15 (.pointer (some ⟨(p1 0).N,1,none⟩)),.l 16 (.string s) 0 1,.c (some 17) (cV (.tuple #[.int .i64 (f:Int),.int .i64 (t:Int)])),.v 14 (.tuple #[.int .i64 (f:Int),.int .i64 (t:Int)]),.v 18 (.int .i64 (f:Int)),.v 19 (.int .i64 (t:Int)),.v 3 (.int .i64 (f:Int)),.v 4 (.int .i64 (t:Int))]) (fun p4=>[(1,.pointer (some ⟨(p1 0).N,0,none⟩)),(2,.int .i64 0),(3,.int .i64 (f:Int)),(4,.int .i64 (t:Int)),(8,.bool false),(10,.bool false)]) (by kernel_rfl) (fun _ _=>by kernel_rfl) (fun _=>by kernel_rfl) (fun _=>by kernel_rfl) (fun p4=>?_) (fun p4 W4 T hF hK=>?_)
 ·refine ok_v (by kernel_rfl) ?_
  refine ok_L (by kernel_rfl) (by kernel_rfl) (by kernel_rfl) ?_
  refine ok_c (fun W cx=>as_v (unhide HE _)) (by kernel_rfl) ?_
  iterate 5 refine ok_v (by kernel_rfl) ?_
  exact ok_nil
 replace hS:=SymF.fb hS hF [0] [⟨(p1 0).N,#[.bool g,.string s,.int .i64 x],23,true⟩] (by kernel_rfl) (by kernel_rfl)
 replace hG:=hF.gx
 clear hF
 have z4:=hS.fr.size
 refine wp_seq ?_
 refine wp_symQ hS hG hK (fun p5=>[.v 20 (.int .i64 (f:Int)),.v 21 (.bool false),.v 22 (.bool false),.v 23 (.int .i64 (t:Int)),.v 24 (.pointer (some ⟨(p1 0).N,1,none⟩)),.l 25 (.string s) 0 1,.v 26 (.int .i64 (s.size:Int)),.v 27 (.bool false),.v 28 (.bool false),.v 29 (.bool false),.v 30 (.pointer (some ⟨(p1 0).N,1,none⟩)),.l 31 (.string s) 0 1,.c (some 32) (cV (.bool true)),.v 33 (.bool false),.v 34 (.bool false),.v 35 (.bool false),.v 36 (.pointer (some ⟨(p1 0).N,2,none⟩)),.l 37 (.int .i64 x) 0 2,.c (some 38) (cV (.bool true)),.v 39 (.bool true)]) (fun p5=>[(1,.pointer (some ⟨(p1 0).N,0,none⟩)),(2,.int .i64 0),(8,.bool false),(10,.bool false),(39,.bool true)]) (by kernel_rfl) (fun _ _=>by kernel_rfl) (fun _=>by kernel_rfl) (fun _=>by kernel_rfl) (fun p5=>?_) (fun p5 W5 T hF hK=>?_)
 ·refine ok_v (by kernel_rfl) ?_
  refine ok_vb (decide_eq_false (show ¬ (f:Int) > 0 by omega)) (by kernel_rfl) ?_
  iterate 3 refine ok_v (by kernel_rfl) ?_
  refine ok_L (by kernel_rfl) (by kernel_rfl) (by kernel_rfl) ?_
  refine ok_v (by kernel_rfl) ?_
  refine ok_vb (decide_eq_false (show ¬ (t:Int) < (s.size:Int) by omega)) (by kernel_rfl) ?_
  iterate 3 refine ok_v (by kernel_rfl) ?_
  refine ok_L (by kernel_rfl) (by kernel_rfl) (by kernel_rfl) ?_
  refine ok_c (fun W cx=>as_v (unhide HA _)) (by kernel_rfl) ?_
  iterate 4 refine ok_v (by kernel_rfl) ?_
  refine ok_L (by kernel_rfl) (by kernel_rfl) (by kernel_rfl) ?_
  refine ok_c (fun W cx=>as_v (unhide HB _)) (by kernel_rfl) ?_
  refine ok_v (by kernel_rfl) ?_
  exact ok_nil
 replace hS:=SymF.fb hS hF [0] [⟨(p1 0).N,#[.bool g,.string s,.int .i64 x],23,true⟩] (by kernel_rfl) (by kernel_rfl)
 replace hG:=hF.gx
 clear hF
 have z5:=hS.fr.size
 refine wp_cond_true (hK.ev 39 (by kernel_rfl) _ (by kernel_rfl)) ?_
 refine wp_symQ hS hG hK (fun p6=>[.v 2 (.int .i64 100)]) (fun p6=>[(1,.pointer (some ⟨(p1 0).N,0,none⟩)),(2,.int .i64 100),(8,.bool false),(10,.bool false),(39,.bool true)]) (by kernel_rfl) (fun _ _=>by kernel_rfl) (fun _=>by kernel_rfl) (fun _=>by kernel_rfl) (fun p6=>?_) (fun p6 W6 T hF hK=>?_)
 ·refine ok_v (by kernel_rfl) ?_
  exact ok_nil
 replace hS:=SymF.fb hS hF [0] [⟨(p1 0).N,#[.bool g,.string s,.int .i64 x],23,true⟩] (by kernel_rfl) (by kernel_rfl)
 replace hG:=hF.gx
 clear hF
 have z6:=hS.fr.size
 refine wp_ret ?_
 refine then_r ?_
 exact sym_end hS hK (.int .i64 100) [] [] (by kernel_rfl) (by kernel_rfl) ⟨rfl,hS.fr⟩
theorem dck_ok (w:World) (g:Bool) (s:ByteArray) (x:Int) (f t:Nat) (hm:s.size≤65536) (hz:s.size≠0) (HE:Hid (∀ W:World,Calls Tryd.prog 24 #[.string s] W fun e W'=>e = .returned (.tuple #[.int .i64 (f:Int),.int .i64 (t:Int)])∧Below W.heap.size W W')) (hf:f = 0) (ht:s.size≤t) (HA:Hid (∀ W:World,Calls Tryd.prog 25 #[.string s] W fun e W'=>e = .returned (.bool true)∧Below W.heap.size W W')) (HB:Hid (∀ W:World,Calls Tryd.prog 26 #[.int .i64 x] W fun e W'=>e = .returned (.bool false)∧Below W.heap.size W W')) :
  Calls Tryd.prog 11 #[.agg #[.bool g,.string s,.int .i64 x]] w fun en w'=>en = .returned (.int .i64 0)∧Below w.heap.size w w':=by
 refine calls_sym Tryd.func11 rfl (by kernel_rfl) fun T hK=>?_
 replace hK:Kn T _ [(0,.agg #[.bool g,.string s,.int .i64 x])]:=hK
 have hS:=Fb.begin w
 have hG:GsAt [] w:=trivial
 refine wp_symQ hS hG hK (fun p1=>[.n 1 #[.bool g,.string s,.int .i64 x] 23,.v 2 (.int .i64 0)]) (fun p1=>[(1,.pointer (some ⟨(p1 0).N,0,none⟩)),(2,.int .i64 0)]) (by kernel_rfl) (fun _ _=>by kernel_rfl) (fun _=>by kernel_rfl) (fun _=>by kernel_rfl) (fun p1=>?_) (fun p1 W1 T hF hK=>?_)
 ·refine ok_n (fun _=>by kernel_rfl) ?_
  refine ok_v (by kernel_rfl) ?_
  exact ok_nil
 replace hS:=SymF.fb hS hF [1000] [⟨(p1 0).N,#[.bool g,.string s,.int .i64 x],23,true⟩] (by kernel_rfl) (by kernel_rfl)
 replace hG:=hF.gx
 clear hF
 have z1:=hS.fr.size
 refine wp_seq ?_
 refine wp_symQ hS hG hK (fun p2=>[.v 5 (.pointer (some ⟨(p1 0).N,1,none⟩)),.l 6 (.string s) 0 1,.v 7 (.int .i64 (s.size:Int)),.v 8 (.bool false)]) (fun p2=>[(1,.pointer (some ⟨(p1 0).N,0,none⟩)),(2,.int .i64 0),(8,.bool false)]) (by kernel_rfl) (fun _ _=>by kernel_rfl) (fun _=>by kernel_rfl) (fun _=>by kernel_rfl) (fun p2=>?_) (fun p2 W2 T hF hK=>?_)
 ·refine ok_v (by kernel_rfl) ?_
  refine ok_L (by kernel_rfl) (by kernel_rfl) (by kernel_rfl) ?_
  refine ok_v (by kernel_rfl) ?_
  refine ok_vb (decide_eq_false (show ¬ (s.size:Int) > 65536 by omega)) (by kernel_rfl) ?_
  exact ok_nil
 replace hS:=SymF.fb hS hF [0] [⟨(p1 0).N,#[.bool g,.string s,.int .i64 x],23,true⟩] (by kernel_rfl) (by kernel_rfl)
 replace hG:=hF.gx
 clear hF
 have z2:=hS.fr.size
 refine wp_cond_false (hK.ev 8 (by kernel_rfl) _ (by kernel_rfl)) ?_
 refine wp_skip ?_
 refine then_n ?_
 refine wp_seq ?_
 refine wp_symQ hS hG hK (fun p3=>[.l 9 (.agg #[.bool g,.string s,.int .i64 x]) 0 0,.c (some 10) (cV (.bool false))]) (fun p3=>[(1,.pointer (some ⟨(p1 0).N,0,none⟩)),(2,.int .i64 0),(8,.bool false),(10,.bool false)]) (by kernel_rfl) (fun _ _=>by kernel_rfl) (fun _=>by kernel_rfl) (fun _=>by kernel_rfl) (fun p3=>?_) (fun p3 W3 T hF hK=>?_)
 ·refine ok_L (by kernel_rfl) (by kernel_rfl) (by kernel_rfl) ?_
  refine ok_c (fun W cx=>as_v (isN_f _ g s x hz)) (by kernel_rfl) ?_
  exact ok_nil
 replace hS:=SymF.fb hS hF [0] [⟨(p1 0).N,#[.bool g,.string s,.int .i64 x],23,true⟩] (by kernel_rfl) (by kernel_rfl)
 replace hG:=hF.gx
 clear hF
 have z3:=hS.fr.size
 refine wp_cond_false (hK.ev 10 (by kernel_rfl) _ (by kernel_rfl)) ?_
 refine wp_skip ?_
 refine then_n ?_
 refine wp_symQ hS hG hK (fun p4=>[.v 15 (.pointer (some ⟨(p1 0).N,1,none⟩)),.l 16 (.string s) 0 1,.c (some 17) (cV (.tuple #[.int .i64 (f:Int),.int .i64 (t:Int)])),.v 14 (.tuple #[.int .i64 (f:Int),.int .i64 (t:Int)]),.v 18 (.int .i64 (f:Int)),.v 19 (.int .i64 (t:Int)),.v 3 (.int .i64 (f:Int)),.v 4 (.int .i64 (t:Int))]) (fun p4=>[(1,.pointer (some ⟨(p1 0).N,0,none⟩)),(2,.int .i64 0),(3,.int .i64 (f:Int)),(4,.int .i64 (t:Int)),(8,.bool false),(10,.bool false)]) (by kernel_rfl) (fun _ _=>by kernel_rfl) (fun _=>by kernel_rfl) (fun _=>by kernel_rfl) (fun p4=>?_) (fun p4 W4 T hF hK=>?_)
 ·refine ok_v (by kernel_rfl) ?_
  refine ok_L (by kernel_rfl) (by kernel_rfl) (by kernel_rfl) ?_
  refine ok_c (fun W cx=>as_v (unhide HE _)) (by kernel_rfl) ?_
  iterate 5 refine ok_v (by kernel_rfl) ?_
  exact ok_nil
 replace hS:=SymF.fb hS hF [0] [⟨(p1 0).N,#[.bool g,.string s,.int .i64 x],23,true⟩] (by kernel_rfl) (by kernel_rfl)
 replace hG:=hF.gx
 clear hF
 have z4:=hS.fr.size
 refine wp_seq ?_
 refine wp_symQ hS hG hK (fun p5=>[.v 20 (.int .i64 (f:Int)),.v 21 (.bool false),.v 22 (.bool false),.v 23 (.int .i64 (t:Int)),.v 24 (.pointer (some ⟨(p1 0).N,1,none⟩)),.l 25 (.string s) 0 1,.v 26 (.int .i64 (s.size:Int)),.v 27 (.bool false),.v 28 (.bool false),.v 29 (.bool false),.v 30 (.pointer (some ⟨(p1 0).N,1,none⟩)),.l 31 (.string s) 0 1,.c (some 32) (cV (.bool true)),.v 33 (.bool false),.v 34 (.bool false),.v 35 (.bool false),.v 36 (.pointer (some ⟨(p1 0).N,2,none⟩)),.l 37 (.int .i64 x) 0 2,.c (some 38) (cV (.bool false)),.v 39 (.bool false)]) (fun p5=>[(1,.pointer (some ⟨(p1 0).N,0,none⟩)),(2,.int .i64 0),(8,.bool false),(10,.bool false),(39,.bool false)]) (by kernel_rfl) (fun _ _=>by kernel_rfl) (fun _=>by kernel_rfl) (fun _=>by kernel_rfl) (fun p5=>?_) (fun p5 W5 T hF hK=>?_)
 ·refine ok_v (by kernel_rfl) ?_
  refine ok_vb (decide_eq_false (show ¬ (f:Int) > 0 by omega)) (by kernel_rfl) ?_
  iterate 3 refine ok_v (by kernel_rfl) ?_
  refine ok_L (by kernel_rfl) (by kernel_rfl) (by kernel_rfl) ?_
  refine ok_v (by kernel_rfl) ?_
  refine ok_vb (decide_eq_false (show ¬ (t:Int) < (s.size:Int) by omega)) (by kernel_rfl) ?_
  iterate 3 refine ok_v (by kernel_rfl) ?_
  refine ok_L (by kernel_rfl) (by kernel_rfl) (by kernel_rfl) ?_
  refine ok_c (fun W cx=>as_v (unhide HA _)) (by kernel_rfl) ?_
  iterate 4 refine ok_v (by kernel_rfl) ?_
  refine ok_L (by kernel_rfl) (by kernel_rfl) (by kernel_rfl) ?_
  refine ok_c (fun W cx=>as_v (unhide HB _)) (by kernel_rfl) ?_
  refine ok_v (by kernel_rfl) ?_
  exact ok_nil
 replace hS:=SymF.fb hS hF [0] [⟨(p1 0).N,#[.bool g,.string s,.int .i64 x],23,true⟩] (by kernel_rfl) (by kernel_rfl)
 replace hG:=hF.gx
 clear hF
 have z5:=hS.fr.size
 refine wp_cond_false (hK.ev 39 (by kernel_rfl) _ (by kernel_rfl)) ?_
 refine wp_skip ?_
 refine then_n ?_
 refine wp_symQ hS hG hK (fun p6=>[.v 2 (.int .i64 0)]) (fun p6=>[(1,.pointer (some ⟨(p1 0).N,0,none⟩)),(2,.int .i64 0),(8,.bool false),(10,.bool false),(39,.bool false)]) (by kernel_rfl) (fun _ _=>by kernel_rfl) (fun _=>by kernel_rfl) (fun _=>by kernel_rfl) (fun p6=>?_) (fun p6 W6 T hF hK=>?_)
 ·refine ok_v (by kernel_rfl) ?_
  exact ok_nil
 replace hS:=SymF.fb hS hF [0] [⟨(p1 0).N,#[.bool g,.string s,.int .i64 x],23,true⟩] (by kernel_rfl) (by kernel_rfl)
 replace hG:=hF.gx
 clear hF
 have z6:=hS.fr.size
 refine wp_ret ?_
 exact sym_end hS hK (.int .i64 0) [] [] (by kernel_rfl) (by kernel_rfl) ⟨rfl,hS.fr⟩
theorem rck_many (w:World) (g:Bool) (s:ByteArray) (x:Int) (hm:65536 < s.size) :
  Calls Tryd.prog 14 #[.agg #[.bool g,.string s,.int .i64 x]] w fun en w'=>en = .returned (.int .i64 4)∧Below w.heap.size w w':=by
 refine calls_sym Tryd.func14 rfl (by kernel_rfl) fun T hK=>?_
 replace hK:Kn T _ [(0,.agg #[.bool g,.string s,.int .i64 x])]:=hK
 have hS:=Fb.begin w
 have hG:GsAt [] w:=trivial
 refine wp_symQ hS hG hK (fun p1=>[.n 1 #[.bool g,.string s,.int .i64 x] 23,.v 2 (.int .i64 0)]) (fun p1=>[(1,.pointer (some ⟨(p1 0).N,0,none⟩)),(2,.int .i64 0)]) (by kernel_rfl) (fun _ _=>by kernel_rfl) (fun _=>by kernel_rfl) (fun _=>by kernel_rfl) (fun p1=>?_) (fun p1 W1 T hF hK=>?_)
 ·refine ok_n (fun _=>by kernel_rfl) ?_
  refine ok_v (by kernel_rfl) ?_
  exact ok_nil
 replace hS:=SymF.fb hS hF [1000] [⟨(p1 0).N,#[.bool g,.string s,.int .i64 x],23,true⟩] (by kernel_rfl) (by kernel_rfl)
 replace hG:=hF.gx
 clear hF
 have z1:=hS.fr.size
 refine wp_symQ hS hG hK (fun p2=>[.v 4 (.pointer (some ⟨(p1 0).N,1,none⟩)),.l 5 (.string s) 0 1,.v 6 (.int .i64 (s.size:Int)),.v 3 (.int .i64 (s.size:Int))]) (fun p2=>[(1,.pointer (some ⟨(p1 0).N,0,none⟩)),(2,.int .i64 0),(3,.int .i64 (s.size:Int))]) (by kernel_rfl) (fun _ _=>by kernel_rfl) (fun _=>by kernel_rfl) (fun _=>by kernel_rfl) (fun p2=>?_) (fun p2 W2 T hF hK=>?_)
 ·refine ok_v (by kernel_rfl) ?_
  refine ok_L (by kernel_rfl) (by kernel_rfl) (by kernel_rfl) ?_
  iterate 2 refine ok_v (by kernel_rfl) ?_
  exact ok_nil
 replace hS:=SymF.fb hS hF [0] [⟨(p1 0).N,#[.bool g,.string s,.int .i64 x],23,true⟩] (by kernel_rfl) (by kernel_rfl)
 replace hG:=hF.gx
 clear hF
 have z2:=hS.fr.size
 refine wp_seq ?_
 refine wp_symQ hS hG hK (fun p3=>[.v 7 (.int .i64 (s.size:Int)),.v 8 (.bool true)]) (fun p3=>[(1,.pointer (some ⟨(p1 0).N,0,none⟩)),(2,.int .i64 0),(3,.int .i64 (s.size:Int)),(8,.bool true)]) (by kernel_rfl) (fun _ _=>by kernel_rfl) (fun _=>by kernel_rfl) (fun _=>by kernel_rfl) (fun p3=>?_) (fun p3 W3 T hF hK=>?_)
 ·refine ok_v (by kernel_rfl) ?_
  refine ok_vb (decide_eq_true (show (s.size:Int) > 65536 by omega)) (by kernel_rfl) ?_
  exact ok_nil
 replace hS:=SymF.fb hS hF [0] [⟨(p1 0).N,#[.bool g,.string s,.int .i64 x],23,true⟩] (by kernel_rfl) (by kernel_rfl)
 replace hG:=hF.gx
 clear hF
 have z3:=hS.fr.size
 refine wp_cond_true (hK.ev 8 (by kernel_rfl) _ (by kernel_rfl)) ?_
 refine wp_symQ hS hG hK (fun p4=>[.v 2 (.int .i64 4)]) (fun p4=>[(1,.pointer (some ⟨(p1 0).N,0,none⟩)),(2,.int .i64 4),(3,.int .i64 (s.size:Int)),(8,.bool true)]) (by kernel_rfl) (fun _ _=>by kernel_rfl) (fun _=>by kernel_rfl) (fun _=>by kernel_rfl) (fun p4=>?_) (fun p4 W4 T hF hK=>?_)
 ·refine ok_v (by kernel_rfl) ?_
  exact ok_nil
 replace hS:=SymF.fb hS hF [0] [⟨(p1 0).N,#[.bool g,.string s,.int .i64 x],23,true⟩] (by kernel_rfl) (by kernel_rfl)
 replace hG:=hF.gx
 clear hF
 have z4:=hS.fr.size
 refine wp_ret ?_
 refine then_r ?_
 exact sym_end hS hK (.int .i64 4) [] [] (by kernel_rfl) (by kernel_rfl) ⟨rfl,hS.fr⟩
theorem rck_z0 (w:World) (g:Bool) (s:ByteArray) (x:Int) (_hm:s.size≤65536) (hz:s.size = 0) (hx:x = 0) :
  Calls Tryd.prog 14 #[.agg #[.bool g,.string s,.int .i64 x]] w fun en w'=>en = .returned (.int .i64 0)∧Below w.heap.size w w':=by
 refine calls_sym Tryd.func14 rfl (by kernel_rfl) fun T hK=>?_
 replace hK:Kn T _ [(0,.agg #[.bool g,.string s,.int .i64 x])]:=hK
 have hS:=Fb.begin w
 have hG:GsAt [] w:=trivial
 refine wp_symQ hS hG hK (fun p1=>[.n 1 #[.bool g,.string s,.int .i64 x] 23,.v 2 (.int .i64 0)]) (fun p1=>[(1,.pointer (some ⟨(p1 0).N,0,none⟩)),(2,.int .i64 0)]) (by kernel_rfl) (fun _ _=>by kernel_rfl) (fun _=>by kernel_rfl) (fun _=>by kernel_rfl) (fun p1=>?_) (fun p1 W1 T hF hK=>?_)
 ·refine ok_n (fun _=>by kernel_rfl) ?_
  refine ok_v (by kernel_rfl) ?_
  exact ok_nil
 replace hS:=SymF.fb hS hF [1000] [⟨(p1 0).N,#[.bool g,.string s,.int .i64 x],23,true⟩] (by kernel_rfl) (by kernel_rfl)
 replace hG:=hF.gx
 clear hF
 have z1:=hS.fr.size
 refine wp_symQ hS hG hK (fun p2=>[.v 4 (.pointer (some ⟨(p1 0).N,1,none⟩)),.l 5 (.string s) 0 1,.v 6 (.int .i64 (s.size:Int)),.v 3 (.int .i64 (s.size:Int))]) (fun p2=>[(1,.pointer (some ⟨(p1 0).N,0,none⟩)),(2,.int .i64 0),(3,.int .i64 (s.size:Int))]) (by kernel_rfl) (fun _ _=>by kernel_rfl) (fun _=>by kernel_rfl) (fun _=>by kernel_rfl) (fun p2=>?_) (fun p2 W2 T hF hK=>?_)
 ·refine ok_v (by kernel_rfl) ?_
  refine ok_L (by kernel_rfl) (by kernel_rfl) (by kernel_rfl) ?_
  iterate 2 refine ok_v (by kernel_rfl) ?_
  exact ok_nil
 replace hS:=SymF.fb hS hF [0] [⟨(p1 0).N,#[.bool g,.string s,.int .i64 x],23,true⟩] (by kernel_rfl) (by kernel_rfl)
 replace hG:=hF.gx
 clear hF
 have z2:=hS.fr.size
 refine wp_seq ?_
 refine wp_symQ hS hG hK (fun p3=>[.v 7 (.int .i64 (s.size:Int)),.v 8 (.bool false)]) (fun p3=>[(1,.pointer (some ⟨(p1 0).N,0,none⟩)),(2,.int .i64 0),(3,.int .i64 (s.size:Int)),(8,.bool false)]) (by kernel_rfl) (fun _ _=>by kernel_rfl) (fun _=>by kernel_rfl) (fun _=>by kernel_rfl) (fun p3=>?_) (fun p3 W3 T hF hK=>?_)
 ·refine ok_v (by kernel_rfl) ?_
  refine ok_vb (decide_eq_false (show ¬ (s.size:Int) > 65536 by omega)) (by kernel_rfl) ?_
  exact ok_nil
 replace hS:=SymF.fb hS hF [0] [⟨(p1 0).N,#[.bool g,.string s,.int .i64 x],23,true⟩] (by kernel_rfl) (by kernel_rfl)
 replace hG:=hF.gx
 clear hF
 have z3:=hS.fr.size
 refine wp_cond_false (hK.ev 8 (by kernel_rfl) _ (by kernel_rfl)) ?_
 refine wp_skip ?_
 refine then_n ?_
 refine wp_seq ?_
 refine wp_symQ hS hG hK (fun p4=>[.v 9 (.int .i64 (s.size:Int)),.v 10 (.bool true)]) (fun p4=>[(1,.pointer (some ⟨(p1 0).N,0,none⟩)),(2,.int .i64 0),(3,.int .i64 (s.size:Int)),(8,.bool false),(10,.bool true)]) (by kernel_rfl) (fun _ _=>by kernel_rfl) (fun _=>by kernel_rfl) (fun _=>by kernel_rfl) (fun p4=>?_) (fun p4 W4 T hF hK=>?_)
 ·refine ok_v (by kernel_rfl) ?_
  refine ok_vb (beq_iff_eq.2 (show (s.size:Int) = 0 by omega)) (by kernel_rfl) ?_
  exact ok_nil
 replace hS:=SymF.fb hS hF [0] [⟨(p1 0).N,#[.bool g,.string s,.int .i64 x],23,true⟩] (by kernel_rfl) (by kernel_rfl)
 replace hG:=hF.gx
 clear hF
 have z4:=hS.fr.size
 refine wp_cond_true (hK.ev 10 (by kernel_rfl) _ (by kernel_rfl)) ?_
 refine wp_seq ?_
 refine wp_symQ hS hG hK (fun p5=>[.v 11 (.pointer (some ⟨(p1 0).N,2,none⟩)),.l 12 (.int .i64 x) 0 2,.v 13 (.bool false)]) (fun p5=>[(1,.pointer (some ⟨(p1 0).N,0,none⟩)),(2,.int .i64 0),(3,.int .i64 (s.size:Int)),(8,.bool false),(10,.bool true),(13,.bool false)]) (by kernel_rfl) (fun _ _=>by kernel_rfl) (fun _=>by kernel_rfl) (fun _=>by kernel_rfl) (fun p5=>?_) (fun p5 W5 T hF hK=>?_)
 ·refine ok_v (by kernel_rfl) ?_
  refine ok_L (by kernel_rfl) (by kernel_rfl) (by kernel_rfl) ?_
  refine ok_vb ((bne_eq_false_iff_eq.2 (show x = 0 by omega))) (by kernel_rfl) ?_
  exact ok_nil
 replace hS:=SymF.fb hS hF [0] [⟨(p1 0).N,#[.bool g,.string s,.int .i64 x],23,true⟩] (by kernel_rfl) (by kernel_rfl)
 replace hG:=hF.gx
 clear hF
 have z5:=hS.fr.size
 refine wp_cond_false (hK.ev 13 (by kernel_rfl) _ (by kernel_rfl)) ?_
 refine wp_skip ?_
 refine then_n ?_
 refine wp_symQ hS hG hK (fun p6=>[.v 2 (.int .i64 0)]) (fun p6=>[(1,.pointer (some ⟨(p1 0).N,0,none⟩)),(2,.int .i64 0),(3,.int .i64 (s.size:Int)),(8,.bool false),(10,.bool true),(13,.bool false)]) (by kernel_rfl) (fun _ _=>by kernel_rfl) (fun _=>by kernel_rfl) (fun _=>by kernel_rfl) (fun p6=>?_) (fun p6 W6 T hF hK=>?_)
 ·refine ok_v (by kernel_rfl) ?_
  exact ok_nil
 replace hS:=SymF.fb hS hF [0] [⟨(p1 0).N,#[.bool g,.string s,.int .i64 x],23,true⟩] (by kernel_rfl) (by kernel_rfl)
 replace hG:=hF.gx
 clear hF
 have z6:=hS.fr.size
 refine wp_ret ?_
 refine then_r ?_
 exact sym_end hS hK (.int .i64 0) [] [] (by kernel_rfl) (by kernel_rfl) ⟨rfl,hS.fr⟩
theorem rck_z1 (w:World) (g:Bool) (s:ByteArray) (x:Int) (_hm:s.size≤65536) (hz:s.size = 0) (hx:x≠0) :
  Calls Tryd.prog 14 #[.agg #[.bool g,.string s,.int .i64 x]] w fun en w'=>en = .returned (.int .i64 100)∧Below w.heap.size w w':=by
 refine calls_sym Tryd.func14 rfl (by kernel_rfl) fun T hK=>?_
 replace hK:Kn T _ [(0,.agg #[.bool g,.string s,.int .i64 x])]:=hK
 have hS:=Fb.begin w
 have hG:GsAt [] w:=trivial
 refine wp_symQ hS hG hK (fun p1=>[.n 1 #[.bool g,.string s,.int .i64 x] 23,.v 2 (.int .i64 0)]) (fun p1=>[(1,.pointer (some ⟨(p1 0).N,0,none⟩)),(2,.int .i64 0)]) (by kernel_rfl) (fun _ _=>by kernel_rfl) (fun _=>by kernel_rfl) (fun _=>by kernel_rfl) (fun p1=>?_) (fun p1 W1 T hF hK=>?_)
 ·refine ok_n (fun _=>by kernel_rfl) ?_
  refine ok_v (by kernel_rfl) ?_
  exact ok_nil
 replace hS:=SymF.fb hS hF [1000] [⟨(p1 0).N,#[.bool g,.string s,.int .i64 x],23,true⟩] (by kernel_rfl) (by kernel_rfl)
 replace hG:=hF.gx
 clear hF
 have z1:=hS.fr.size
 refine wp_symQ hS hG hK (fun p2=>[.v 4 (.pointer (some ⟨(p1 0).N,1,none⟩)),.l 5 (.string s) 0 1,.v 6 (.int .i64 (s.size:Int)),.v 3 (.int .i64 (s.size:Int))]) (fun p2=>[(1,.pointer (some ⟨(p1 0).N,0,none⟩)),(2,.int .i64 0),(3,.int .i64 (s.size:Int))]) (by kernel_rfl) (fun _ _=>by kernel_rfl) (fun _=>by kernel_rfl) (fun _=>by kernel_rfl) (fun p2=>?_) (fun p2 W2 T hF hK=>?_)
 ·refine ok_v (by kernel_rfl) ?_
  refine ok_L (by kernel_rfl) (by kernel_rfl) (by kernel_rfl) ?_
  iterate 2 refine ok_v (by kernel_rfl) ?_
  exact ok_nil
 replace hS:=SymF.fb hS hF [0] [⟨(p1 0).N,#[.bool g,.string s,.int .i64 x],23,true⟩] (by kernel_rfl) (by kernel_rfl)
 replace hG:=hF.gx
 clear hF
 have z2:=hS.fr.size
 refine wp_seq ?_
 refine wp_symQ hS hG hK (fun p3=>[.v 7 (.int .i64 (s.size:Int)),.v 8 (.bool false)]) (fun p3=>[(1,.pointer (some ⟨(p1 0).N,0,none⟩)),(2,.int .i64 0),(3,.int .i64 (s.size:Int)),(8,.bool false)]) (by kernel_rfl) (fun _ _=>by kernel_rfl) (fun _=>by kernel_rfl) (fun _=>by kernel_rfl) (fun p3=>?_) (fun p3 W3 T hF hK=>?_)
 ·refine ok_v (by kernel_rfl) ?_
  refine ok_vb (decide_eq_false (show ¬ (s.size:Int) > 65536 by omega)) (by kernel_rfl) ?_
  exact ok_nil
 replace hS:=SymF.fb hS hF [0] [⟨(p1 0).N,#[.bool g,.string s,.int .i64 x],23,true⟩] (by kernel_rfl) (by kernel_rfl)
 replace hG:=hF.gx
 clear hF
 have z3:=hS.fr.size
 refine wp_cond_false (hK.ev 8 (by kernel_rfl) _ (by kernel_rfl)) ?_
 refine wp_skip ?_
 refine then_n ?_
 refine wp_seq ?_
 refine wp_symQ hS hG hK (fun p4=>[.v 9 (.int .i64 (s.size:Int)),.v 10 (.bool true)]) (fun p4=>[(1,.pointer (some ⟨(p1 0).N,0,none⟩)),(2,.int .i64 0),(3,.int .i64 (s.size:Int)),(8,.bool false),(10,.bool true)]) (by kernel_rfl) (fun _ _=>by kernel_rfl) (fun _=>by kernel_rfl) (fun _=>by kernel_rfl) (fun p4=>?_) (fun p4 W4 T hF hK=>?_)
 ·refine ok_v (by kernel_rfl) ?_
  refine ok_vb (beq_iff_eq.2 (show (s.size:Int) = 0 by omega)) (by kernel_rfl) ?_
  exact ok_nil
 replace hS:=SymF.fb hS hF [0] [⟨(p1 0).N,#[.bool g,.string s,.int .i64 x],23,true⟩] (by kernel_rfl) (by kernel_rfl)
 replace hG:=hF.gx
 clear hF
 have z4:=hS.fr.size
 refine wp_cond_true (hK.ev 10 (by kernel_rfl) _ (by kernel_rfl)) ?_
 refine wp_seq ?_
 refine wp_symQ hS hG hK (fun p5=>[.v 11 (.pointer (some ⟨(p1 0).N,2,none⟩)),.l 12 (.int .i64 x) 0 2,.v 13 (.bool true)]) (fun p5=>[(1,.pointer (some ⟨(p1 0).N,0,none⟩)),(2,.int .i64 0),(3,.int .i64 (s.size:Int)),(8,.bool false),(10,.bool true),(13,.bool true)]) (by kernel_rfl) (fun _ _=>by kernel_rfl) (fun _=>by kernel_rfl) (fun _=>by kernel_rfl) (fun p5=>?_) (fun p5 W5 T hF hK=>?_)
 ·refine ok_v (by kernel_rfl) ?_
  refine ok_L (by kernel_rfl) (by kernel_rfl) (by kernel_rfl) ?_
  refine ok_vb (bne_iff_ne.2 (show x≠0 by omega)) (by kernel_rfl) ?_
  exact ok_nil
 replace hS:=SymF.fb hS hF [0] [⟨(p1 0).N,#[.bool g,.string s,.int .i64 x],23,true⟩] (by kernel_rfl) (by kernel_rfl)
 replace hG:=hF.gx
 clear hF
 have z5:=hS.fr.size
 refine wp_cond_true (hK.ev 13 (by kernel_rfl) _ (by kernel_rfl)) ?_
 refine wp_symQ hS hG hK (fun p6=>[.v 2 (.int .i64 100)]) (fun p6=>[(1,.pointer (some ⟨(p1 0).N,0,none⟩)),(2,.int .i64 100),(3,.int .i64 (s.size:Int)),(8,.bool false),(10,.bool true),(13,.bool true)]) (by kernel_rfl) (fun _ _=>by kernel_rfl) (fun _=>by kernel_rfl) (fun _=>by kernel_rfl) (fun p6=>?_) (fun p6 W6 T hF hK=>?_)
 ·refine ok_v (by kernel_rfl) ?_
  exact ok_nil
 replace hS:=SymF.fb hS hF [0] [⟨(p1 0).N,#[.bool g,.string s,.int .i64 x],23,true⟩] (by kernel_rfl) (by kernel_rfl)
 replace hG:=hF.gx
 clear hF
 have z6:=hS.fr.size
 refine wp_ret ?_
 refine then_r ?_
 refine then_r ?_
 exact sym_end hS hK (.int .i64 100) [] [] (by kernel_rfl) (by kernel_rfl) ⟨rfl,hS.fr⟩
theorem rck_b1 (w:World) (g:Bool) (s:ByteArray) (x:Int) (hm:s.size≤65536) (hz:s.size≠0) (HD:Hid (∀ W:World,Calls Tryd.prog 28 #[.string s] W fun e W'=>e = .returned (.bool false)∧Below W.heap.size W W')) :
  Calls Tryd.prog 14 #[.agg #[.bool g,.string s,.int .i64 x]] w fun en w'=>en = .returned (.int .i64 100)∧Below w.heap.size w w':=by
 refine calls_sym Tryd.func14 rfl (by kernel_rfl) fun T hK=>?_
 replace hK:Kn T _ [(0,.agg #[.bool g,.string s,.int .i64 x])]:=hK
 have hS:=Fb.begin w
 have hG:GsAt [] w:=trivial
 refine wp_symQ hS hG hK (fun p1=>[.n 1 #[.bool g,.string s,.int .i64 x] 23,.v 2 (.int .i64 0)]) (fun p1=>[(1,.pointer (some ⟨(p1 0).N,0,none⟩)),(2,.int .i64 0)]) (by kernel_rfl) (fun _ _=>by kernel_rfl) (fun _=>by kernel_rfl) (fun _=>by kernel_rfl) (fun p1=>?_) (fun p1 W1 T hF hK=>?_)
 ·refine ok_n (fun _=>by kernel_rfl) ?_
  refine ok_v (by kernel_rfl) ?_
  exact ok_nil
 replace hS:=SymF.fb hS hF [1000] [⟨(p1 0).N,#[.bool g,.string s,.int .i64 x],23,true⟩] (by kernel_rfl) (by kernel_rfl)
 replace hG:=hF.gx
 clear hF
 have z1:=hS.fr.size
 refine wp_symQ hS hG hK (fun p2=>[.v 4 (.pointer (some ⟨(p1 0).N,1,none⟩)),.l 5 (.string s) 0 1,.v 6 (.int .i64 (s.size:Int)),.v 3 (.int .i64 (s.size:Int))]) (fun p2=>[(1,.pointer (some ⟨(p1 0).N,0,none⟩)),(2,.int .i64 0),(3,.int .i64 (s.size:Int))]) (by kernel_rfl) (fun _ _=>by kernel_rfl) (fun _=>by kernel_rfl) (fun _=>by kernel_rfl) (fun p2=>?_) (fun p2 W2 T hF hK=>?_)
 ·refine ok_v (by kernel_rfl) ?_
  refine ok_L (by kernel_rfl) (by kernel_rfl) (by kernel_rfl) ?_
  iterate 2 refine ok_v (by kernel_rfl) ?_
  exact ok_nil
 replace hS:=SymF.fb hS hF [0] [⟨(p1 0).N,#[.bool g,.string s,.int .i64 x],23,true⟩] (by kernel_rfl) (by kernel_rfl)
 replace hG:=hF.gx
 clear hF
 have z2:=hS.fr.size
 refine wp_seq ?_
 refine wp_symQ hS hG hK (fun p3=>[.v 7 (.int .i64 (s.size:Int)),.v 8 (.bool false)]) (fun p3=>[(1,.pointer (some ⟨(p1 0).N,0,none⟩)),(2,.int .i64 0),(3,.int .i64 (s.size:Int)),(8,.bool false)]) (by kernel_rfl) (fun _ _=>by kernel_rfl) (fun _=>by kernel_rfl) (fun _=>by kernel_rfl) (fun p3=>?_) (fun p3 W3 T hF hK=>?_)
 ·refine ok_v (by kernel_rfl) ?_
  refine ok_vb (decide_eq_false (show ¬ (s.size:Int) > 65536 by omega)) (by kernel_rfl) ?_
  exact ok_nil
 replace hS:=SymF.fb hS hF [0] [⟨(p1 0).N,#[.bool g,.string s,.int .i64 x],23,true⟩] (by kernel_rfl) (by kernel_rfl)
 replace hG:=hF.gx
 clear hF
 have z3:=hS.fr.size
 refine wp_cond_false (hK.ev 8 (by kernel_rfl) _ (by kernel_rfl)) ?_
 refine wp_skip ?_
 refine then_n ?_
 refine wp_seq ?_
 refine wp_symQ hS hG hK (fun p4=>[.v 9 (.int .i64 (s.size:Int)),.v 10 (.bool false)]) (fun p4=>[(1,.pointer (some ⟨(p1 0).N,0,none⟩)),(2,.int .i64 0),(3,.int .i64 (s.size:Int)),(8,.bool false),(10,.bool false)]) (by kernel_rfl) (fun _ _=>by kernel_rfl) (fun _=>by kernel_rfl) (fun _=>by kernel_rfl) (fun p4=>?_) (fun p4 W4 T hF hK=>?_)
 ·refine ok_v (by kernel_rfl) ?_
  refine ok_vb (beq_false_of_ne (show (s.size:Int)≠0 by omega)) (by kernel_rfl) ?_
  exact ok_nil
 replace hS:=SymF.fb hS hF [0] [⟨(p1 0).N,#[.bool g,.string s,.int .i64 x],23,true⟩] (by kernel_rfl) (by kernel_rfl)
 replace hG:=hF.gx
 clear hF
 have z4:=hS.fr.size
 refine wp_cond_false (hK.ev 10 (by kernel_rfl) _ (by kernel_rfl)) ?_
 refine wp_skip ?_
 refine then_n ?_
 refine wp_seq ?_
 refine wp_symQ hS hG hK (fun p5=>[.v 14 (.pointer (some ⟨(p1 0).N,1,none⟩)),.l 15 (.string s) 0 1,.c (some 16) (cV (.bool false)),.v 17 (.bool true),.v 18 (.bool true),.k (some 19),.k (some 20),.k (some 21),.k (some 22),.v 23 (.bool true),.v 24 (.bool true),.k (some 25),.k (some 26),.k (some 27),.k (some 28),.k (some 29),.k (some 30),.v 31 (.bool true),.v 32 (.bool true),.k (some 33),.k (some 34),.k (some 35),.v 36 (.bool true)]) (fun p5=>[(1,.pointer (some ⟨(p1 0).N,0,none⟩)),(2,.int .i64 0),(8,.bool false),(10,.bool false),(36,.bool true)]) (by kernel_rfl) (fun _ _=>by kernel_rfl) (fun _=>by kernel_rfl) (fun _=>by kernel_rfl) (fun p5=>?_) (fun p5 W5 T hF hK=>?_)
 ·refine ok_v (by kernel_rfl) ?_
  refine ok_L (by kernel_rfl) (by kernel_rfl) (by kernel_rfl) ?_
  refine ok_c (fun W cx=>as_v (unhide HD _)) (by kernel_rfl) ?_
  iterate 2 refine ok_v (by kernel_rfl) ?_
  iterate 4 refine ok_K (by kernel_rfl) ?_
  iterate 2 refine ok_v (by kernel_rfl) ?_
  iterate 6 refine ok_K (by kernel_rfl) ?_
  iterate 2 refine ok_v (by kernel_rfl) ?_
  iterate 3 refine ok_K (by kernel_rfl) ?_
  refine ok_v (by kernel_rfl) ?_
  exact ok_nil
 replace hS:=SymF.fb hS hF [0] [⟨(p1 0).N,#[.bool g,.string s,.int .i64 x],23,true⟩] (by kernel_rfl) (by kernel_rfl)
 replace hG:=hF.gx
 clear hF
 have z5:=hS.fr.size
 refine wp_cond_true (hK.ev 36 (by kernel_rfl) _ (by kernel_rfl)) ?_
 refine wp_symQ hS hG hK (fun p6=>[.v 2 (.int .i64 100)]) (fun p6=>[(1,.pointer (some ⟨(p1 0).N,0,none⟩)),(2,.int .i64 100),(8,.bool false),(10,.bool false),(36,.bool true)]) (by kernel_rfl) (fun _ _=>by kernel_rfl) (fun _=>by kernel_rfl) (fun _=>by kernel_rfl) (fun p6=>?_) (fun p6 W6 T hF hK=>?_)
 ·refine ok_v (by kernel_rfl) ?_
  exact ok_nil
 replace hS:=SymF.fb hS hF [0] [⟨(p1 0).N,#[.bool g,.string s,.int .i64 x],23,true⟩] (by kernel_rfl) (by kernel_rfl)
 replace hG:=hF.gx
 clear hF
 have z6:=hS.fr.size
 refine wp_ret ?_
 refine then_r ?_
 exact sym_end hS hK (.int .i64 100) [] [] (by kernel_rfl) (by kernel_rfl) ⟨rfl,hS.fr⟩
theorem rck_b2 (w:World) (g:Bool) (s:ByteArray) (x:Int) (a:Nat) (hm:s.size≤65536) (hz:s.size≠0) (HD:Hid (∀ W:World,Calls Tryd.prog 28 #[.string s] W fun e W'=>e = .returned (.bool true)∧Below W.heap.size W W')) (ha:∀ h:0 < s.size,(s[0]'h).toNat = a) (ha2:a = 48) :
  Calls Tryd.prog 14 #[.agg #[.bool g,.string s,.int .i64 x]] w fun en w'=>en = .returned (.int .i64 100)∧Below w.heap.size w w':=by
 have hi0:script Tryd.prog 0 (Instr.index 9 (.string s) (.int .i64 0)) [] = some (.int .u8 (a:Int),[]):=script_index (j:=0) Tryd.under_str rfl (by omega) (ha _)
 refine calls_sym Tryd.func14 rfl (by kernel_rfl) fun T hK=>?_
 replace hK:Kn T _ [(0,.agg #[.bool g,.string s,.int .i64 x])]:=hK
 have hS:=Fb.begin w
 have hG:GsAt [] w:=trivial
 refine wp_symQ hS hG hK (fun p1=>[.n 1 #[.bool g,.string s,.int .i64 x] 23,.v 2 (.int .i64 0)]) (fun p1=>[(1,.pointer (some ⟨(p1 0).N,0,none⟩)),(2,.int .i64 0)]) (by kernel_rfl) (fun _ _=>by kernel_rfl) (fun _=>by kernel_rfl) (fun _=>by kernel_rfl) (fun p1=>?_) (fun p1 W1 T hF hK=>?_)
 ·refine ok_n (fun _=>by kernel_rfl) ?_
  refine ok_v (by kernel_rfl) ?_
  exact ok_nil
 replace hS:=SymF.fb hS hF [1000] [⟨(p1 0).N,#[.bool g,.string s,.int .i64 x],23,true⟩] (by kernel_rfl) (by kernel_rfl)
 replace hG:=hF.gx
 clear hF
 have z1:=hS.fr.size
 refine wp_symQ hS hG hK (fun p2=>[.v 4 (.pointer (some ⟨(p1 0).N,1,none⟩)),.l 5 (.string s) 0 1,.v 6 (.int .i64 (s.size:Int)),.v 3 (.int .i64 (s.size:Int))]) (fun p2=>[(1,.pointer (some ⟨(p1 0).N,0,none⟩)),(2,.int .i64 0),(3,.int .i64 (s.size:Int))]) (by kernel_rfl) (fun _ _=>by kernel_rfl) (fun _=>by kernel_rfl) (fun _=>by kernel_rfl) (fun p2=>?_) (fun p2 W2 T hF hK=>?_)
 ·refine ok_v (by kernel_rfl) ?_
  refine ok_L (by kernel_rfl) (by kernel_rfl) (by kernel_rfl) ?_
  iterate 2 refine ok_v (by kernel_rfl) ?_
  exact ok_nil
 replace hS:=SymF.fb hS hF [0] [⟨(p1 0).N,#[.bool g,.string s,.int .i64 x],23,true⟩] (by kernel_rfl) (by kernel_rfl)
 replace hG:=hF.gx
 clear hF
 have z2:=hS.fr.size
 refine wp_seq ?_
 refine wp_symQ hS hG hK (fun p3=>[.v 7 (.int .i64 (s.size:Int)),.v 8 (.bool false)]) (fun p3=>[(1,.pointer (some ⟨(p1 0).N,0,none⟩)),(2,.int .i64 0),(3,.int .i64 (s.size:Int)),(8,.bool false)]) (by kernel_rfl) (fun _ _=>by kernel_rfl) (fun _=>by kernel_rfl) (fun _=>by kernel_rfl) (fun p3=>?_) (fun p3 W3 T hF hK=>?_)
 ·refine ok_v (by kernel_rfl) ?_
  refine ok_vb (decide_eq_false (show ¬ (s.size:Int) > 65536 by omega)) (by kernel_rfl) ?_
  exact ok_nil
 replace hS:=SymF.fb hS hF [0] [⟨(p1 0).N,#[.bool g,.string s,.int .i64 x],23,true⟩] (by kernel_rfl) (by kernel_rfl)
 replace hG:=hF.gx
 clear hF
 have z3:=hS.fr.size
 refine wp_cond_false (hK.ev 8 (by kernel_rfl) _ (by kernel_rfl)) ?_
 refine wp_skip ?_
 refine then_n ?_
 refine wp_seq ?_
 refine wp_symQ hS hG hK (fun p4=>[.v 9 (.int .i64 (s.size:Int)),.v 10 (.bool false)]) (fun p4=>[(1,.pointer (some ⟨(p1 0).N,0,none⟩)),(2,.int .i64 0),(3,.int .i64 (s.size:Int)),(8,.bool false),(10,.bool false)]) (by kernel_rfl) (fun _ _=>by kernel_rfl) (fun _=>by kernel_rfl) (fun _=>by kernel_rfl) (fun p4=>?_) (fun p4 W4 T hF hK=>?_)
 ·refine ok_v (by kernel_rfl) ?_
  refine ok_vb (beq_false_of_ne (show (s.size:Int)≠0 by omega)) (by kernel_rfl) ?_
  exact ok_nil
 replace hS:=SymF.fb hS hF [0] [⟨(p1 0).N,#[.bool g,.string s,.int .i64 x],23,true⟩] (by kernel_rfl) (by kernel_rfl)
 replace hG:=hF.gx
 clear hF
 have z4:=hS.fr.size
 refine wp_cond_false (hK.ev 10 (by kernel_rfl) _ (by kernel_rfl)) ?_
 refine wp_skip ?_
 refine then_n ?_
 refine wp_seq ?_
 refine wp_symQ hS hG hK (fun p5=>[.v 14 (.pointer (some ⟨(p1 0).N,1,none⟩)),.l 15 (.string s) 0 1,.c (some 16) (cV (.bool true)),.v 17 (.bool false),.v 18 (.bool false),.v 19 (.pointer (some ⟨(p1 0).N,1,none⟩)),.l 20 (.string s) 0 1,.v 21 (.int .u8 (a:Int)),.v 22 (.bool true),.v 23 (.bool true),.v 24 (.bool true),.k (some 25),.k (some 26),.k (some 27),.k (some 28),.k (some 29),.k (some 30),.v 31 (.bool true),.v 32 (.bool true),.k (some 33),.k (some 34),.k (some 35),.v 36 (.bool true)]) (fun p5=>[(1,.pointer (some ⟨(p1 0).N,0,none⟩)),(2,.int .i64 0),(8,.bool false),(10,.bool false),(36,.bool true)]) (by kernel_rfl) (fun _ _=>by kernel_rfl) (fun _=>by kernel_rfl) (fun _=>by kernel_rfl) (fun p5=>?_) (fun p5 W5 T hF hK=>?_)
 ·refine ok_v (by kernel_rfl) ?_
  refine ok_L (by kernel_rfl) (by kernel_rfl) (by kernel_rfl) ?_
  refine ok_c (fun W cx=>as_v (unhide HD _)) (by kernel_rfl) ?_
  iterate 3 refine ok_v (by kernel_rfl) ?_
  refine ok_L (by kernel_rfl) (by kernel_rfl) (by kernel_rfl) ?_
  refine ok_vr (hi0) (by kernel_rfl) ?_
  refine ok_vb (beq_iff_eq.2 (show (a:Int) = 48 by omega)) (by kernel_rfl) ?_
  iterate 2 refine ok_v (by kernel_rfl) ?_
  iterate 6 refine ok_K (by kernel_rfl) ?_
  iterate 2 refine ok_v (by kernel_rfl) ?_
  iterate 3 refine ok_K (by kernel_rfl) ?_
  refine ok_v (by kernel_rfl) ?_
  exact ok_nil
 replace hS:=SymF.fb hS hF [0] [⟨(p1 0).N,#[.bool g,.string s,.int .i64 x],23,true⟩] (by kernel_rfl) (by kernel_rfl)
 replace hG:=hF.gx
 clear hF
 have z5:=hS.fr.size
 refine wp_cond_true (hK.ev 36 (by kernel_rfl) _ (by kernel_rfl)) ?_
 refine wp_symQ hS hG hK (fun p6=>[.v 2 (.int .i64 100)]) (fun p6=>[(1,.pointer (some ⟨(p1 0).N,0,none⟩)),(2,.int .i64 100),(8,.bool false),(10,.bool false),(36,.bool true)]) (by kernel_rfl) (fun _ _=>by kernel_rfl) (fun _=>by kernel_rfl) (fun _=>by kernel_rfl) (fun p6=>?_) (fun p6 W6 T hF hK=>?_)
 ·refine ok_v (by kernel_rfl) ?_
  exact ok_nil
 replace hS:=SymF.fb hS hF [0] [⟨(p1 0).N,#[.bool g,.string s,.int .i64 x],23,true⟩] (by kernel_rfl) (by kernel_rfl)
 replace hG:=hF.gx
 clear hF
 have z6:=hS.fr.size
 refine wp_ret ?_
 refine then_r ?_
 exact sym_end hS hK (.int .i64 100) [] [] (by kernel_rfl) (by kernel_rfl) ⟨rfl,hS.fr⟩
theorem rck_b3 (w:World) (g:Bool) (s:ByteArray) (x:Int) (a:Nat) (k b:Nat) (hm:s.size≤65536) (_hz:s.size≠0) (HD:Hid (∀ W:World,Calls Tryd.prog 28 #[.string s] W fun e W'=>e = .returned (.bool true)∧Below W.heap.size W W')) (ha:∀ h:0 < s.size,(s[0]'h).toNat = a) (ha2:a≠48) (hk:k+1 = s.size) (hb:∀ h:k < s.size,(s[k]'h).toNat = b) (hb2:b = 48) :
  Calls Tryd.prog 14 #[.agg #[.bool g,.string s,.int .i64 x]] w fun en w'=>en = .returned (.int .i64 100)∧Below w.heap.size w w':=by
 have hi0:script Tryd.prog 0 (Instr.index 9 (.string s) (.int .i64 0)) [] = some (.int .u8 (a:Int),[]):=script_index (j:=0) Tryd.under_str rfl (by omega) (ha _)
 have hi1:script Tryd.prog 0 (Instr.index 9 (.string s) (.int .i64 (k:Int))) [] = some (.int .u8 (b:Int),[]):=script_index (j:=k) Tryd.under_str rfl (by omega) (hb _)
 refine calls_sym Tryd.func14 rfl (by kernel_rfl) fun T hK=>?_
 replace hK:Kn T _ [(0,.agg #[.bool g,.string s,.int .i64 x])]:=hK
 have hS:=Fb.begin w
 have hG:GsAt [] w:=trivial
 refine wp_symQ hS hG hK (fun p1=>[.n 1 #[.bool g,.string s,.int .i64 x] 23,.v 2 (.int .i64 0)]) (fun p1=>[(1,.pointer (some ⟨(p1 0).N,0,none⟩)),(2,.int .i64 0)]) (by kernel_rfl) (fun _ _=>by kernel_rfl) (fun _=>by kernel_rfl) (fun _=>by kernel_rfl) (fun p1=>?_) (fun p1 W1 T hF hK=>?_)
 ·refine ok_n (fun _=>by kernel_rfl) ?_
  refine ok_v (by kernel_rfl) ?_
  exact ok_nil
 replace hS:=SymF.fb hS hF [1000] [⟨(p1 0).N,#[.bool g,.string s,.int .i64 x],23,true⟩] (by kernel_rfl) (by kernel_rfl)
 replace hG:=hF.gx
 clear hF
 have z1:=hS.fr.size
 refine wp_symQ hS hG hK (fun p2=>[.v 4 (.pointer (some ⟨(p1 0).N,1,none⟩)),.l 5 (.string s) 0 1,.v 6 (.int .i64 (s.size:Int)),.v 3 (.int .i64 (s.size:Int))]) (fun p2=>[(1,.pointer (some ⟨(p1 0).N,0,none⟩)),(2,.int .i64 0),(3,.int .i64 (s.size:Int))]) (by kernel_rfl) (fun _ _=>by kernel_rfl) (fun _=>by kernel_rfl) (fun _=>by kernel_rfl) (fun p2=>?_) (fun p2 W2 T hF hK=>?_)
 ·refine ok_v (by kernel_rfl) ?_
  refine ok_L (by kernel_rfl) (by kernel_rfl) (by kernel_rfl) ?_
  iterate 2 refine ok_v (by kernel_rfl) ?_
  exact ok_nil
 replace hS:=SymF.fb hS hF [0] [⟨(p1 0).N,#[.bool g,.string s,.int .i64 x],23,true⟩] (by kernel_rfl) (by kernel_rfl)
 replace hG:=hF.gx
 clear hF
 have z2:=hS.fr.size
 refine wp_seq ?_
 refine wp_symQ hS hG hK (fun p3=>[.v 7 (.int .i64 (s.size:Int)),.v 8 (.bool false)]) (fun p3=>[(1,.pointer (some ⟨(p1 0).N,0,none⟩)),(2,.int .i64 0),(3,.int .i64 (s.size:Int)),(8,.bool false)]) (by kernel_rfl) (fun _ _=>by kernel_rfl) (fun _=>by kernel_rfl) (fun _=>by kernel_rfl) (fun p3=>?_) (fun p3 W3 T hF hK=>?_)
 ·refine ok_v (by kernel_rfl) ?_
  refine ok_vb (decide_eq_false (show ¬ (s.size:Int) > 65536 by omega)) (by kernel_rfl) ?_
  exact ok_nil
 replace hS:=SymF.fb hS hF [0] [⟨(p1 0).N,#[.bool g,.string s,.int .i64 x],23,true⟩] (by kernel_rfl) (by kernel_rfl)
 replace hG:=hF.gx
 clear hF
 have z3:=hS.fr.size
 refine wp_cond_false (hK.ev 8 (by kernel_rfl) _ (by kernel_rfl)) ?_
 refine wp_skip ?_
 refine then_n ?_
 refine wp_seq ?_
 refine wp_symQ hS hG hK (fun p4=>[.v 9 (.int .i64 (s.size:Int)),.v 10 (.bool false)]) (fun p4=>[(1,.pointer (some ⟨(p1 0).N,0,none⟩)),(2,.int .i64 0),(3,.int .i64 (s.size:Int)),(8,.bool false),(10,.bool false)]) (by kernel_rfl) (fun _ _=>by kernel_rfl) (fun _=>by kernel_rfl) (fun _=>by kernel_rfl) (fun p4=>?_) (fun p4 W4 T hF hK=>?_)
 ·refine ok_v (by kernel_rfl) ?_
  refine ok_vb (beq_false_of_ne (show (s.size:Int)≠0 by omega)) (by kernel_rfl) ?_
  exact ok_nil
 replace hS:=SymF.fb hS hF [0] [⟨(p1 0).N,#[.bool g,.string s,.int .i64 x],23,true⟩] (by kernel_rfl) (by kernel_rfl)
 replace hG:=hF.gx
 clear hF
 have z4:=hS.fr.size
 refine wp_cond_false (hK.ev 10 (by kernel_rfl) _ (by kernel_rfl)) ?_
 refine wp_skip ?_
 refine then_n ?_
 refine wp_seq ?_
 refine wp_symQ hS hG hK (fun p5=>[.v 14 (.pointer (some ⟨(p1 0).N,1,none⟩)),.l 15 (.string s) 0 1,.c (some 16) (cV (.bool true)),.v 17 (.bool false),.v 18 (.bool false),.v 19 (.pointer (some ⟨(p1 0).N,1,none⟩)),.l 20 (.string s) 0 1,.v 21 (.int .u8 (a:Int)),.v 22 (.bool false),.v 23 (.bool false),.v 24 (.bool false),.v 25 (.pointer (some ⟨(p1 0).N,1,none⟩)),.l 26 (.string s) 0 1,.v 27 (.int .i64 (s.size:Int)),.v 28 (.int .i64 (k:Int)),.v 29 (.int .u8 (b:Int)),.v 30 (.bool true),.v 31 (.bool true),.v 32 (.bool true),.k (some 33),.k (some 34),.k (some 35),.v 36 (.bool true)]) (fun p5=>[(1,.pointer (some ⟨(p1 0).N,0,none⟩)),(2,.int .i64 0),(8,.bool false),(10,.bool false),(36,.bool true)]) (by kernel_rfl) (fun _ _=>by kernel_rfl) (fun _=>by kernel_rfl) (fun _=>by kernel_rfl) (fun p5=>?_) (fun p5 W5 T hF hK=>?_)
 ·refine ok_v (by kernel_rfl) ?_
  refine ok_L (by kernel_rfl) (by kernel_rfl) (by kernel_rfl) ?_
  refine ok_c (fun W cx=>as_v (unhide HD _)) (by kernel_rfl) ?_
  iterate 3 refine ok_v (by kernel_rfl) ?_
  refine ok_L (by kernel_rfl) (by kernel_rfl) (by kernel_rfl) ?_
  refine ok_vr (hi0) (by kernel_rfl) ?_
  refine ok_vb (beq_false_of_ne (show (a:Int)≠48 by omega)) (by kernel_rfl) ?_
  iterate 3 refine ok_v (by kernel_rfl) ?_
  refine ok_L (by kernel_rfl) (by kernel_rfl) (by kernel_rfl) ?_
  refine ok_v (by kernel_rfl) ?_
  refine ok_vi ((wr64 (x:=(s.size:Int) - 1) (by omega) (by omega)).trans (by omega)) (by kernel_rfl) ?_
  refine ok_vr (hi1) (by kernel_rfl) ?_
  refine ok_vb (beq_iff_eq.2 (show (b:Int) = 48 by omega)) (by kernel_rfl) ?_
  iterate 2 refine ok_v (by kernel_rfl) ?_
  iterate 3 refine ok_K (by kernel_rfl) ?_
  refine ok_v (by kernel_rfl) ?_
  exact ok_nil
 replace hS:=SymF.fb hS hF [0] [⟨(p1 0).N,#[.bool g,.string s,.int .i64 x],23,true⟩] (by kernel_rfl) (by kernel_rfl)
 replace hG:=hF.gx
 clear hF
 have z5:=hS.fr.size
 refine wp_cond_true (hK.ev 36 (by kernel_rfl) _ (by kernel_rfl)) ?_
 refine wp_symQ hS hG hK (fun p6=>[.v 2 (.int .i64 100)]) (fun p6=>[(1,.pointer (some ⟨(p1 0).N,0,none⟩)),(2,.int .i64 100),(8,.bool false),(10,.bool false),(36,.bool true)]) (by kernel_rfl) (fun _ _=>by kernel_rfl) (fun _=>by kernel_rfl) (fun _=>by kernel_rfl) (fun p6=>?_) (fun p6 W6 T hF hK=>?_)
 ·refine ok_v (by kernel_rfl) ?_
  exact ok_nil
 replace hS:=SymF.fb hS hF [0] [⟨(p1 0).N,#[.bool g,.string s,.int .i64 x],23,true⟩] (by kernel_rfl) (by kernel_rfl)
 replace hG:=hF.gx
 clear hF
 have z6:=hS.fr.size
 refine wp_ret ?_
 refine then_r ?_
 exact sym_end hS hK (.int .i64 100) [] [] (by kernel_rfl) (by kernel_rfl) ⟨rfl,hS.fr⟩
theorem rck_b4 (w:World) (g:Bool) (s:ByteArray) (x:Int) (a:Nat) (k b:Nat) (hm:s.size≤65536) (_hz:s.size≠0) (HD:Hid (∀ W:World,Calls Tryd.prog 28 #[.string s] W fun e W'=>e = .returned (.bool true)∧Below W.heap.size W W')) (ha:∀ h:0 < s.size,(s[0]'h).toNat = a) (ha2:a≠48) (hk:k+1 = s.size) (hb:∀ h:k < s.size,(s[k]'h).toNat = b) (hb2:b≠48) (HB:Hid (∀ W:World,Calls Tryd.prog 23 #[.int .i64 x] W fun e W'=>e = .returned (.bool true)∧Below W.heap.size W W')) :
  Calls Tryd.prog 14 #[.agg #[.bool g,.string s,.int .i64 x]] w fun en w'=>en = .returned (.int .i64 100)∧Below w.heap.size w w':=by
 have hi0:script Tryd.prog 0 (Instr.index 9 (.string s) (.int .i64 0)) [] = some (.int .u8 (a:Int),[]):=script_index (j:=0) Tryd.under_str rfl (by omega) (ha _)
 have hi1:script Tryd.prog 0 (Instr.index 9 (.string s) (.int .i64 (k:Int))) [] = some (.int .u8 (b:Int),[]):=script_index (j:=k) Tryd.under_str rfl (by omega) (hb _)
 refine calls_sym Tryd.func14 rfl (by kernel_rfl) fun T hK=>?_
 replace hK:Kn T _ [(0,.agg #[.bool g,.string s,.int .i64 x])]:=hK
 have hS:=Fb.begin w
 have hG:GsAt [] w:=trivial
 refine wp_symQ hS hG hK (fun p1=>[.n 1 #[.bool g,.string s,.int .i64 x] 23,.v 2 (.int .i64 0)]) (fun p1=>[(1,.pointer (some ⟨(p1 0).N,0,none⟩)),(2,.int .i64 0)]) (by kernel_rfl) (fun _ _=>by kernel_rfl) (fun _=>by kernel_rfl) (fun _=>by kernel_rfl) (fun p1=>?_) (fun p1 W1 T hF hK=>?_)
 ·refine ok_n (fun _=>by kernel_rfl) ?_
  refine ok_v (by kernel_rfl) ?_
  exact ok_nil
 replace hS:=SymF.fb hS hF [1000] [⟨(p1 0).N,#[.bool g,.string s,.int .i64 x],23,true⟩] (by kernel_rfl) (by kernel_rfl)
 replace hG:=hF.gx
 clear hF
 have z1:=hS.fr.size
 refine wp_symQ hS hG hK (fun p2=>[.v 4 (.pointer (some ⟨(p1 0).N,1,none⟩)),.l 5 (.string s) 0 1,.v 6 (.int .i64 (s.size:Int)),.v 3 (.int .i64 (s.size:Int))]) (fun p2=>[(1,.pointer (some ⟨(p1 0).N,0,none⟩)),(2,.int .i64 0),(3,.int .i64 (s.size:Int))]) (by kernel_rfl) (fun _ _=>by kernel_rfl) (fun _=>by kernel_rfl) (fun _=>by kernel_rfl) (fun p2=>?_) (fun p2 W2 T hF hK=>?_)
 ·refine ok_v (by kernel_rfl) ?_
  refine ok_L (by kernel_rfl) (by kernel_rfl) (by kernel_rfl) ?_
  iterate 2 refine ok_v (by kernel_rfl) ?_
  exact ok_nil
 replace hS:=SymF.fb hS hF [0] [⟨(p1 0).N,#[.bool g,.string s,.int .i64 x],23,true⟩] (by kernel_rfl) (by kernel_rfl)
 replace hG:=hF.gx
 clear hF
 have z2:=hS.fr.size
 refine wp_seq ?_
 refine wp_symQ hS hG hK (fun p3=>[.v 7 (.int .i64 (s.size:Int)),.v 8 (.bool false)]) (fun p3=>[(1,.pointer (some ⟨(p1 0).N,0,none⟩)),(2,.int .i64 0),(3,.int .i64 (s.size:Int)),(8,.bool false)]) (by kernel_rfl) (fun _ _=>by kernel_rfl) (fun _=>by kernel_rfl) (fun _=>by kernel_rfl) (fun p3=>?_) (fun p3 W3 T hF hK=>?_)
 ·refine ok_v (by kernel_rfl) ?_
  refine ok_vb (decide_eq_false (show ¬ (s.size:Int) > 65536 by omega)) (by kernel_rfl) ?_
  exact ok_nil
 replace hS:=SymF.fb hS hF [0] [⟨(p1 0).N,#[.bool g,.string s,.int .i64 x],23,true⟩] (by kernel_rfl) (by kernel_rfl)
 replace hG:=hF.gx
 clear hF
 have z3:=hS.fr.size
 refine wp_cond_false (hK.ev 8 (by kernel_rfl) _ (by kernel_rfl)) ?_
 refine wp_skip ?_
 refine then_n ?_
 refine wp_seq ?_
 refine wp_symQ hS hG hK (fun p4=>[.v 9 (.int .i64 (s.size:Int)),.v 10 (.bool false)]) (fun p4=>[(1,.pointer (some ⟨(p1 0).N,0,none⟩)),(2,.int .i64 0),(3,.int .i64 (s.size:Int)),(8,.bool false),(10,.bool false)]) (by kernel_rfl) (fun _ _=>by kernel_rfl) (fun _=>by kernel_rfl) (fun _=>by kernel_rfl) (fun p4=>?_) (fun p4 W4 T hF hK=>?_)
 ·refine ok_v (by kernel_rfl) ?_
  refine ok_vb (beq_false_of_ne (show (s.size:Int)≠0 by omega)) (by kernel_rfl) ?_
  exact ok_nil
 replace hS:=SymF.fb hS hF [0] [⟨(p1 0).N,#[.bool g,.string s,.int .i64 x],23,true⟩] (by kernel_rfl) (by kernel_rfl)
 replace hG:=hF.gx
 clear hF
 have z4:=hS.fr.size
 refine wp_cond_false (hK.ev 10 (by kernel_rfl) _ (by kernel_rfl)) ?_
 refine wp_skip ?_
 refine then_n ?_
 refine wp_seq ?_
 refine wp_symQ hS hG hK (fun p5=>[.v 14 (.pointer (some ⟨(p1 0).N,1,none⟩)),.l 15 (.string s) 0 1,.c (some 16) (cV (.bool true)),.v 17 (.bool false),.v 18 (.bool false),.v 19 (.pointer (some ⟨(p1 0).N,1,none⟩)),.l 20 (.string s) 0 1,.v 21 (.int .u8 (a:Int)),.v 22 (.bool false),.v 23 (.bool false),.v 24 (.bool false),.v 25 (.pointer (some ⟨(p1 0).N,1,none⟩)),.l 26 (.string s) 0 1,.v 27 (.int .i64 (s.size:Int)),.v 28 (.int .i64 (k:Int)),.v 29 (.int .u8 (b:Int)),.v 30 (.bool false),.v 31 (.bool false),.v 32 (.bool false),.v 33 (.pointer (some ⟨(p1 0).N,2,none⟩)),.l 34 (.int .i64 x) 0 2,.c (some 35) (cV (.bool true)),.v 36 (.bool true)]) (fun p5=>[(1,.pointer (some ⟨(p1 0).N,0,none⟩)),(2,.int .i64 0),(8,.bool false),(10,.bool false),(36,.bool true)]) (by kernel_rfl) (fun _ _=>by kernel_rfl) (fun _=>by kernel_rfl) (fun _=>by kernel_rfl) (fun p5=>?_) (fun p5 W5 T hF hK=>?_)
 ·refine ok_v (by kernel_rfl) ?_
  refine ok_L (by kernel_rfl) (by kernel_rfl) (by kernel_rfl) ?_
  refine ok_c (fun W cx=>as_v (unhide HD _)) (by kernel_rfl) ?_
  iterate 3 refine ok_v (by kernel_rfl) ?_
  refine ok_L (by kernel_rfl) (by kernel_rfl) (by kernel_rfl) ?_
  refine ok_vr (hi0) (by kernel_rfl) ?_
  refine ok_vb (beq_false_of_ne (show (a:Int)≠48 by omega)) (by kernel_rfl) ?_
  iterate 3 refine ok_v (by kernel_rfl) ?_
  refine ok_L (by kernel_rfl) (by kernel_rfl) (by kernel_rfl) ?_
  refine ok_v (by kernel_rfl) ?_
  refine ok_vi ((wr64 (x:=(s.size:Int) - 1) (by omega) (by omega)).trans (by omega)) (by kernel_rfl) ?_
  refine ok_vr (hi1) (by kernel_rfl) ?_
  refine ok_vb (beq_false_of_ne (show (b:Int)≠48 by omega)) (by kernel_rfl) ?_
  iterate 3 refine ok_v (by kernel_rfl) ?_
  refine ok_L (by kernel_rfl) (by kernel_rfl) (by kernel_rfl) ?_
  refine ok_c (fun W cx=>as_v (unhide HB _)) (by kernel_rfl) ?_
  refine ok_v (by kernel_rfl) ?_
  exact ok_nil
 replace hS:=SymF.fb hS hF [0] [⟨(p1 0).N,#[.bool g,.string s,.int .i64 x],23,true⟩] (by kernel_rfl) (by kernel_rfl)
 replace hG:=hF.gx
 clear hF
 have z5:=hS.fr.size
 refine wp_cond_true (hK.ev 36 (by kernel_rfl) _ (by kernel_rfl)) ?_
 refine wp_symQ hS hG hK (fun p6=>[.v 2 (.int .i64 100)]) (fun p6=>[(1,.pointer (some ⟨(p1 0).N,0,none⟩)),(2,.int .i64 100),(8,.bool false),(10,.bool false),(36,.bool true)]) (by kernel_rfl) (fun _ _=>by kernel_rfl) (fun _=>by kernel_rfl) (fun _=>by kernel_rfl) (fun p6=>?_) (fun p6 W6 T hF hK=>?_)
 ·refine ok_v (by kernel_rfl) ?_
  exact ok_nil
 replace hS:=SymF.fb hS hF [0] [⟨(p1 0).N,#[.bool g,.string s,.int .i64 x],23,true⟩] (by kernel_rfl) (by kernel_rfl)
 replace hG:=hF.gx
 clear hF
 have z6:=hS.fr.size
 refine wp_ret ?_
 refine then_r ?_
 exact sym_end hS hK (.int .i64 100) [] [] (by kernel_rfl) (by kernel_rfl) ⟨rfl,hS.fr⟩
theorem rck_ok (w:World) (g:Bool) (s:ByteArray) (x:Int) (a:Nat) (k b:Nat) (hm:s.size≤65536) (_hz:s.size≠0) (HD:Hid (∀ W:World,Calls Tryd.prog 28 #[.string s] W fun e W'=>e = .returned (.bool true)∧Below W.heap.size W W')) (ha:∀ h:0 < s.size,(s[0]'h).toNat = a) (ha2:a≠48) (hk:k+1 = s.size) (hb:∀ h:k < s.size,(s[k]'h).toNat = b) (hb2:b≠48) (HB:Hid (∀ W:World,Calls Tryd.prog 23 #[.int .i64 x] W fun e W'=>e = .returned (.bool false)∧Below W.heap.size W W')) :
  Calls Tryd.prog 14 #[.agg #[.bool g,.string s,.int .i64 x]] w fun en w'=>en = .returned (.int .i64 0)∧Below w.heap.size w w':=by
 have hi0:script Tryd.prog 0 (Instr.index 9 (.string s) (.int .i64 0)) [] = some (.int .u8 (a:Int),[]):=script_index (j:=0) Tryd.under_str rfl (by omega) (ha _)
 have hi1:script Tryd.prog 0 (Instr.index 9 (.string s) (.int .i64 (k:Int))) [] = some (.int .u8 (b:Int),[]):=script_index (j:=k) Tryd.under_str rfl (by omega) (hb _)
 refine calls_sym Tryd.func14 rfl (by kernel_rfl) fun T hK=>?_
 replace hK:Kn T _ [(0,.agg #[.bool g,.string s,.int .i64 x])]:=hK
 have hS:=Fb.begin w
 have hG:GsAt [] w:=trivial
 refine wp_symQ hS hG hK (fun p1=>[.n 1 #[.bool g,.string s,.int .i64 x] 23,.v 2 (.int .i64 0)]) (fun p1=>[(1,.pointer (some ⟨(p1 0).N,0,none⟩)),(2,.int .i64 0)]) (by kernel_rfl) (fun _ _=>by kernel_rfl) (fun _=>by kernel_rfl) (fun _=>by kernel_rfl) (fun p1=>?_) (fun p1 W1 T hF hK=>?_)
 ·refine ok_n (fun _=>by kernel_rfl) ?_
  refine ok_v (by kernel_rfl) ?_
  exact ok_nil
 replace hS:=SymF.fb hS hF [1000] [⟨(p1 0).N,#[.bool g,.string s,.int .i64 x],23,true⟩] (by kernel_rfl) (by kernel_rfl)
 replace hG:=hF.gx
 clear hF
 have z1:=hS.fr.size
 refine wp_symQ hS hG hK (fun p2=>[.v 4 (.pointer (some ⟨(p1 0).N,1,none⟩)),.l 5 (.string s) 0 1,.v 6 (.int .i64 (s.size:Int)),.v 3 (.int .i64 (s.size:Int))]) (fun p2=>[(1,.pointer (some ⟨(p1 0).N,0,none⟩)),(2,.int .i64 0),(3,.int .i64 (s.size:Int))]) (by kernel_rfl) (fun _ _=>by kernel_rfl) (fun _=>by kernel_rfl) (fun _=>by kernel_rfl) (fun p2=>?_) (fun p2 W2 T hF hK=>?_)
 ·refine ok_v (by kernel_rfl) ?_
  refine ok_L (by kernel_rfl) (by kernel_rfl) (by kernel_rfl) ?_
  iterate 2 refine ok_v (by kernel_rfl) ?_
  exact ok_nil
 replace hS:=SymF.fb hS hF [0] [⟨(p1 0).N,#[.bool g,.string s,.int .i64 x],23,true⟩] (by kernel_rfl) (by kernel_rfl)
 replace hG:=hF.gx
 clear hF
 have z2:=hS.fr.size
 refine wp_seq ?_
 refine wp_symQ hS hG hK (fun p3=>[.v 7 (.int .i64 (s.size:Int)),.v 8 (.bool false)]) (fun p3=>[(1,.pointer (some ⟨(p1 0).N,0,none⟩)),(2,.int .i64 0),(3,.int .i64 (s.size:Int)),(8,.bool false)]) (by kernel_rfl) (fun _ _=>by kernel_rfl) (fun _=>by kernel_rfl) (fun _=>by kernel_rfl) (fun p3=>?_) (fun p3 W3 T hF hK=>?_)
 ·refine ok_v (by kernel_rfl) ?_
  refine ok_vb (decide_eq_false (show ¬ (s.size:Int) > 65536 by omega)) (by kernel_rfl) ?_
  exact ok_nil
 replace hS:=SymF.fb hS hF [0] [⟨(p1 0).N,#[.bool g,.string s,.int .i64 x],23,true⟩] (by kernel_rfl) (by kernel_rfl)
 replace hG:=hF.gx
 clear hF
 have z3:=hS.fr.size
 refine wp_cond_false (hK.ev 8 (by kernel_rfl) _ (by kernel_rfl)) ?_
 refine wp_skip ?_
 refine then_n ?_
 refine wp_seq ?_
 refine wp_symQ hS hG hK (fun p4=>[.v 9 (.int .i64 (s.size:Int)),.v 10 (.bool false)]) (fun p4=>[(1,.pointer (some ⟨(p1 0).N,0,none⟩)),(2,.int .i64 0),(3,.int .i64 (s.size:Int)),(8,.bool false),(10,.bool false)]) (by kernel_rfl) (fun _ _=>by kernel_rfl) (fun _=>by kernel_rfl) (fun _=>by kernel_rfl) (fun p4=>?_) (fun p4 W4 T hF hK=>?_)
 ·refine ok_v (by kernel_rfl) ?_
  refine ok_vb (beq_false_of_ne (show (s.size:Int)≠0 by omega)) (by kernel_rfl) ?_
  exact ok_nil
 replace hS:=SymF.fb hS hF [0] [⟨(p1 0).N,#[.bool g,.string s,.int .i64 x],23,true⟩] (by kernel_rfl) (by kernel_rfl)
 replace hG:=hF.gx
 clear hF
 have z4:=hS.fr.size
 refine wp_cond_false (hK.ev 10 (by kernel_rfl) _ (by kernel_rfl)) ?_
 refine wp_skip ?_
 refine then_n ?_
 refine wp_seq ?_
 refine wp_symQ hS hG hK (fun p5=>[.v 14 (.pointer (some ⟨(p1 0).N,1,none⟩)),.l 15 (.string s) 0 1,.c (some 16) (cV (.bool true)),.v 17 (.bool false),.v 18 (.bool false),.v 19 (.pointer (some ⟨(p1 0).N,1,none⟩)),.l 20 (.string s) 0 1,.v 21 (.int .u8 (a:Int)),.v 22 (.bool false),.v 23 (.bool false),.v 24 (.bool false),.v 25 (.pointer (some ⟨(p1 0).N,1,none⟩)),.l 26 (.string s) 0 1,.v 27 (.int .i64 (s.size:Int)),.v 28 (.int .i64 (k:Int)),.v 29 (.int .u8 (b:Int)),.v 30 (.bool false),.v 31 (.bool false),.v 32 (.bool false),.v 33 (.pointer (some ⟨(p1 0).N,2,none⟩)),.l 34 (.int .i64 x) 0 2,.c (some 35) (cV (.bool false)),.v 36 (.bool false)]) (fun p5=>[(1,.pointer (some ⟨(p1 0).N,0,none⟩)),(2,.int .i64 0),(8,.bool false),(10,.bool false),(36,.bool false)]) (by kernel_rfl) (fun _ _=>by kernel_rfl) (fun _=>by kernel_rfl) (fun _=>by kernel_rfl) (fun p5=>?_) (fun p5 W5 T hF hK=>?_)
 ·refine ok_v (by kernel_rfl) ?_
  refine ok_L (by kernel_rfl) (by kernel_rfl) (by kernel_rfl) ?_
  refine ok_c (fun W cx=>as_v (unhide HD _)) (by kernel_rfl) ?_
  iterate 3 refine ok_v (by kernel_rfl) ?_
  refine ok_L (by kernel_rfl) (by kernel_rfl) (by kernel_rfl) ?_
  refine ok_vr (hi0) (by kernel_rfl) ?_
  refine ok_vb (beq_false_of_ne (show (a:Int)≠48 by omega)) (by kernel_rfl) ?_
  iterate 3 refine ok_v (by kernel_rfl) ?_
  refine ok_L (by kernel_rfl) (by kernel_rfl) (by kernel_rfl) ?_
  refine ok_v (by kernel_rfl) ?_
  refine ok_vi ((wr64 (x:=(s.size:Int) - 1) (by omega) (by omega)).trans (by omega)) (by kernel_rfl) ?_
  refine ok_vr (hi1) (by kernel_rfl) ?_
  refine ok_vb (beq_false_of_ne (show (b:Int)≠48 by omega)) (by kernel_rfl) ?_
  iterate 3 refine ok_v (by kernel_rfl) ?_
  refine ok_L (by kernel_rfl) (by kernel_rfl) (by kernel_rfl) ?_
  refine ok_c (fun W cx=>as_v (unhide HB _)) (by kernel_rfl) ?_
  refine ok_v (by kernel_rfl) ?_
  exact ok_nil
 replace hS:=SymF.fb hS hF [0] [⟨(p1 0).N,#[.bool g,.string s,.int .i64 x],23,true⟩] (by kernel_rfl) (by kernel_rfl)
 replace hG:=hF.gx
 clear hF
 have z5:=hS.fr.size
 refine wp_cond_false (hK.ev 36 (by kernel_rfl) _ (by kernel_rfl)) ?_
 refine wp_skip ?_
 refine then_n ?_
 refine wp_symQ hS hG hK (fun p6=>[.v 2 (.int .i64 0)]) (fun p6=>[(1,.pointer (some ⟨(p1 0).N,0,none⟩)),(2,.int .i64 0),(8,.bool false),(10,.bool false),(36,.bool false)]) (by kernel_rfl) (fun _ _=>by kernel_rfl) (fun _=>by kernel_rfl) (fun _=>by kernel_rfl) (fun p6=>?_) (fun p6 W6 T hF hK=>?_)
 ·refine ok_v (by kernel_rfl) ?_
  exact ok_nil
 replace hS:=SymF.fb hS hF [0] [⟨(p1 0).N,#[.bool g,.string s,.int .i64 x],23,true⟩] (by kernel_rfl) (by kernel_rfl)
 replace hG:=hF.gx
 clear hF
 have z6:=hS.fr.size
 refine wp_ret ?_
 exact sym_end hS hK (.int .i64 0) [] [] (by kernel_rfl) (by kernel_rfl) ⟨rfl,hS.fr⟩
theorem told_under:Tryd.prog.underlying 28 = some (.struct (Tryd.prog.fieldsOf 28)):=by kernel_rfl
theorem eq_told (g:Bool) (s:ByteArray) (x:Int) (b:Bool) (e:Int) (W:World) :
  (Op.equalIn 10000 28 (.agg #[.bool g,.string s,.int .i64 x,.bool b,.int .i64 e]) (.agg #[.bool g,.string s,.int .i64 x,.bool b,.int .i64 e])).run Tryd.prog W = .ok true W:=by
 have hs:Tryd.prog.stoodInHeld 28 = false:=by kernel_rfl
 rw [show (10000:Nat) = 9999+1 from rfl,run_equalIn_struct W 9999 _ _ _ told_under hs]
 simp [go_sem,Op.eqFields]
end Go.Proofs.YtdbmdhfjmdlihaaDoor
