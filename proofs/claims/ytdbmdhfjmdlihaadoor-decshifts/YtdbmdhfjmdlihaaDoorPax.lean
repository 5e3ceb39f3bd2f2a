/- Of what DecShiftsRow stands on: DcShrW. -/
import Derived.Test.YtdbmdhfjmdlihaaDoorPal
import Derived.Test.YtdbmdhfjmdlihaaDoorPaw
import Derived.Test.YtdbmdhfjmdlihaaDoorPat
import Derived.Test.YtdbmdhfjmdlihaaDoorPas
import Derived.Test.YtdbmdhfjmdlihaaDoorPak
namespace Go.Proofs.YtdbmdhfjmdlihaaDoor
open Go.RowKit
set_option maxHeartbeats 2000000
set_option maxRecDepth 20000
theorem rmn_t (w:World)   :
  Calls Tryd.prog 16 #[.bool true] w fun en w'=>en = .returned (.string ⟨#[45]⟩)∧Below w.heap.size w w':=by
 refine calls_sym Tryd.func16 rfl (by kernel_rfl) fun T hK=>?_
 replace hK:Kn T _ [(0,.bool true)]:=hK
 have hS:=Fb.begin w
 have hG:GsAt [] w:=trivial
 refine wp_symQ hS hG hK (fun p1=>[.v 2 (.string { data:=#[] })]) (fun p1=>[(0,.bool true),(2,.string { data:=#[] })]) (by kernel_rfl) (fun _ _=>by kernel_rfl) (fun _=>by kernel_rfl) (fun _=>by kernel_rfl) (fun p1=>?_) (fun p1 W1 T hF hK=>?_)
 ·refine ok_v (by kernel_rfl) ?_
  exact ok_nil
 replace hS:=SymF.fb hS hF [] [] (by kernel_rfl) (by kernel_rfl)
 replace hG:=hF.gx
 clear hF
 have z1:=hS.fr.size
 refine wp_seq ?_
 refine wp_symQ hS hG hK (fun p2=>[.v 3 (.bool true)]) (fun p2=>[(2,.string { data:=#[] }),(3,.bool true)]) (by kernel_rfl) (fun _ _=>by kernel_rfl) (fun _=>by kernel_rfl) (fun _=>by kernel_rfl) (fun p2=>?_) (fun p2 W2 T hF hK=>?_)
 ·refine ok_v (by kernel_rfl) ?_
  exact ok_nil
 replace hS:=SymF.fb hS hF [] [] (by kernel_rfl) (by kernel_rfl)
 replace hG:=hF.gx
 clear hF
 have z2:=hS.fr.size
 refine wp_cond_true (hK.ev 3 (by kernel_rfl) _ (by kernel_rfl)) ?_
 refine wp_symQ hS hG hK (fun p3=>[.v 2 (.string { data:=#[45] })]) (fun p3=>[(2,.string { data:=#[45] }),(3,.bool true)]) (by kernel_rfl) (fun _ _=>by kernel_rfl) (fun _=>by kernel_rfl) (fun _=>by kernel_rfl) (fun p3=>?_) (fun p3 W3 T hF hK=>?_)
 ·refine ok_v (by kernel_rfl) ?_
  exact ok_nil
 replace hS:=SymF.fb hS hF [] [] (by kernel_rfl) (by kernel_rfl)
 replace hG:=hF.gx
 clear hF
 have z3:=hS.fr.size
 refine wp_ret ?_
 refine then_r ?_
 exact sym_end hS hK (.string ⟨#[45]⟩) [] [] (by kernel_rfl) (by kernel_rfl) ⟨rfl,hS.fr⟩
theorem rmn_f (w:World)   :
  Calls Tryd.prog 16 #[.bool false] w fun en w'=>en = .returned (.string ⟨#[]⟩)∧Below w.heap.size w w':=by
 refine calls_sym Tryd.func16 rfl (by kernel_rfl) fun T hK=>?_
 replace hK:Kn T _ [(0,.bool false)]:=hK
 have hS:=Fb.begin w
 have hG:GsAt [] w:=trivial
 refine wp_symQ hS hG hK (fun p1=>[.v 2 (.string { data:=#[] })]) (fun p1=>[(0,.bool false),(2,.string { data:=#[] })]) (by kernel_rfl) (fun _ _=>by kernel_rfl) (fun _=>by kernel_rfl) (fun _=>by kernel_rfl) (fun p1=>?_) (fun p1 W1 T hF hK=>?_)
 ·refine ok_v (by kernel_rfl) ?_
  exact ok_nil
 replace hS:=SymF.fb hS hF [] [] (by kernel_rfl) (by kernel_rfl)
 replace hG:=hF.gx
 clear hF
 have z1:=hS.fr.size
 refine wp_seq ?_
 refine wp_symQ hS hG hK (fun p2=>[.v 3 (.bool false)]) (fun p2=>[(2,.string { data:=#[] }),(3,.bool false)]) (by kernel_rfl) (fun _ _=>by kernel_rfl) (fun _=>by kernel_rfl) (fun _=>by kernel_rfl) (fun p2=>?_) (fun p2 W2 T hF hK=>?_)
 ·refine ok_v (by kernel_rfl) ?_
  exact ok_nil
 replace hS:=SymF.fb hS hF [] [] (by kernel_rfl) (by kernel_rfl)
 replace hG:=hF.gx
 clear hF
 have z2:=hS.fr.size
 refine wp_cond_false (hK.ev 3 (by kernel_rfl) _ (by kernel_rfl)) ?_
 refine wp_skip ?_
 refine then_n ?_
 refine wp_symQ hS hG hK (fun p3=>[.v 2 (.string { data:=#[] })]) (fun p3=>[(2,.string { data:=#[] }),(3,.bool false)]) (by kernel_rfl) (fun _ _=>by kernel_rfl) (fun _=>by kernel_rfl) (fun _=>by kernel_rfl) (fun p3=>?_) (fun p3 W3 T hF hK=>?_)
 ·refine ok_v (by kernel_rfl) ?_
  exact ok_nil
 replace hS:=SymF.fb hS hF [] [] (by kernel_rfl) (by kernel_rfl)
 replace hG:=hF.gx
 clear hF
 have z3:=hS.fr.size
 refine wp_ret ?_
 exact sym_end hS hK (.string ⟨#[]⟩) [] [] (by kernel_rfl) (by kernel_rfl) ⟨rfl,hS.fr⟩
theorem rd0_e (w:World) (g:Bool) (s:ByteArray) (x:Int) (e1:Int) (he:e1≠0)  :
  Calls Tryd.prog 22 #[.agg #[.bool g,.string s,.int .i64 x],.int .i64 e1] w fun en w'=>en = .returned (.agg #[.bool false,.string ⟨#[]⟩,.int .i64 0])∧Below w.heap.size w w':=by
 refine calls_sym Tryd.func22 rfl (by kernel_rfl) fun T hK=>?_
 replace hK:Kn T _ [(0,.agg #[.bool g,.string s,.int .i64 x]),(1,.int .i64 e1)]:=hK
 have hS:=Fb.begin w
 have hG:GsAt [] w:=trivial
 refine wp_symQ hS hG hK (fun p1=>[.n 2 #[.bool g,.string s,.int .i64 x] 23,.n 4 #[.bool false,.string ⟨#[]⟩,.int .i64 0] 23]) (fun p1=>[(1,.int .i64 e1),(2,.pointer (some ⟨(p1 0).N,0,none⟩)),(4,.pointer (some ⟨(p1 1).N,0,none⟩))]) (by kernel_rfl) (fun _ _=>by kernel_rfl) (fun _=>by kernel_rfl) (fun _=>by kernel_rfl) (fun p1=>?_) (fun p1 W1 T hF hK=>?_)
 ·iterate 2 refine ok_n (fun _=>by kernel_rfl) ?_
  exact ok_nil
 replace hS:=SymF.fb hS hF [1000,1001] [⟨(p1 0).N,#[.bool g,.string s,.int .i64 x],23,true⟩,⟨(p1 1).N,#[.bool false,.string ⟨#[]⟩,.int .i64 0],23,true⟩] (by kernel_rfl) (by kernel_rfl)
 replace hG:=hF.gx
 clear hF
 have z1:=hS.fr.size
 refine wp_seq ?_
 refine wp_symQ hS hG hK (fun p2=>[.v 5 (.int .i64 e1),.v 6 (.bool true)]) (fun p2=>[(2,.pointer (some ⟨(p1 0).N,0,none⟩)),(4,.pointer (some ⟨(p1 1).N,0,none⟩)),(6,.bool true)]) (by kernel_rfl) (fun _ _=>by kernel_rfl) (fun _=>by kernel_rfl) (fun _=>by kernel_rfl) (fun p2=>?_) (fun p2 W2 T hF hK=>?_)
 ·refine ok_v (by kernel_rfl) ?_
  refine ok_vb (bne_iff_ne.2 he) (by kernel_rfl) ?_
  exact ok_nil
 replace hS:=SymF.fb hS hF [0,1] [⟨(p1 0).N,#[.bool g,.string s,.int .i64 x],23,true⟩,⟨(p1 1).N,#[.bool false,.string ⟨#[]⟩,.int .i64 0],23,true⟩] (by kernel_rfl) (by kernel_rfl)
 replace hG:=hF.gx
 clear hF
 have z2:=hS.fr.size
 refine wp_cond_true (hK.ev 6 (by kernel_rfl) _ (by kernel_rfl)) ?_
 refine wp_symQ hS hG hK (fun p3=>[.v 7 (.agg #[.bool false,.string ⟨#[]⟩,.int .i64 0]),.p 1 0 [.bool false,.string ⟨#[]⟩,.int .i64 0]]) (fun p3=>[(2,.pointer (some ⟨(p1 0).N,0,none⟩)),(4,.pointer (some ⟨(p1 1).N,0,none⟩)),(6,.bool true)]) (by kernel_rfl) (fun _ _=>by kernel_rfl) (fun _=>by kernel_rfl) (fun _=>by kernel_rfl) (fun p3=>?_) (fun p3 W3 T hF hK=>?_)
 ·refine ok_v (by kernel_rfl) ?_
  refine ok_P (by kernel_rfl) (by kernel_rfl) (by kernel_rfl) ?_
  exact ok_nil
 replace hS:=SymF.fb hS hF [0,1] [⟨(p1 0).N,#[.bool g,.string s,.int .i64 x],23,true⟩,⟨(p1 1).N,#[.bool false,.string ⟨#[]⟩,.int .i64 0],23,true⟩] (by kernel_rfl) (by kernel_rfl)
 replace hG:=hF.gx
 clear hF
 have z3:=hS.fr.size
 refine wp_ret ?_
 refine then_r ?_
 exact sym_end hS hK (.agg #[.bool false,.string ⟨#[]⟩,.int .i64 0]) [(1,0,3)] [.bool false,.string ⟨#[]⟩,.int .i64 0] (by kernel_rfl) (by kernel_rfl) ⟨rfl,hS.fr⟩
theorem rd0_o (w:World) (g:Bool) (s:ByteArray) (x:Int)  :
  Calls Tryd.prog 22 #[.agg #[.bool g,.string s,.int .i64 x],.int .i64 0] w fun en w'=>en = .returned (.agg #[.bool g,.string s,.int .i64 x])∧Below w.heap.size w w':=by
 refine calls_sym Tryd.func22 rfl (by kernel_rfl) fun T hK=>?_
 replace hK:Kn T _ [(0,.agg #[.bool g,.string s,.int .i64 x]),(1,.int .i64 0)]:=hK
 have hS:=Fb.begin w
 have hG:GsAt [] w:=trivial
 refine wp_symQ hS hG hK (fun p1=>[.n 2 #[.bool g,.string s,.int .i64 x] 23,.n 4 #[.bool false,.string ⟨#[]⟩,.int .i64 0] 23]) (fun p1=>[(1,.int .i64 0),(2,.pointer (some ⟨(p1 0).N,0,none⟩)),(4,.pointer (some ⟨(p1 1).N,0,none⟩))]) (by kernel_rfl) (fun _ _=>by kernel_rfl) (fun _=>by kernel_rfl) (fun _=>by kernel_rfl) (fun p1=>?_) (fun p1 W1 T hF hK=>?_)
 ·iterate 2 refine ok_n (fun _=>by kernel_rfl) ?_
  exact ok_nil
 replace hS:=SymF.fb hS hF [1000,1001] [⟨(p1 0).N,#[.bool g,.string s,.int .i64 x],23,true⟩,⟨(p1 1).N,#[.bool false,.string ⟨#[]⟩,.int .i64 0],23,true⟩] (by kernel_rfl) (by kernel_rfl)
 replace hG:=hF.gx
 clear hF
 have z1:=hS.fr.size
 refine wp_seq ?_
 refine wp_symQ hS hG hK (fun p2=>[.v 5 (.int .i64 0),.v 6 (.bool false)]) (fun p2=>[(2,.pointer (some ⟨(p1 0).N,0,none⟩)),(4,.pointer (some ⟨(p1 1).N,0,none⟩)),(6,.bool false)]) (by kernel_rfl) (fun _ _=>by kernel_rfl) (fun _=>by kernel_rfl) (fun _=>by kernel_rfl) (fun p2=>?_) (fun p2 W2 T hF hK=>?_)
 ·iterate 2 refine ok_v (by kernel_rfl) ?_
  exact ok_nil
 replace hS:=SymF.fb hS hF [0,1] [⟨(p1 0).N,#[.bool g,.string s,.int .i64 x],23,true⟩,⟨(p1 1).N,#[.bool false,.string ⟨#[]⟩,.int .i64 0],23,true⟩] (by kernel_rfl) (by kernel_rfl)
 replace hG:=hF.gx
 clear hF
 have z2:=hS.fr.size
 refine wp_cond_false (hK.ev 6 (by kernel_rfl) _ (by kernel_rfl)) ?_
 refine wp_skip ?_
 refine then_n ?_
 refine wp_symQ hS hG hK (fun p3=>[.l 8 (.agg #[.bool g,.string s,.int .i64 x]) 0 0,.p 1 0 [.bool g,.string s,.int .i64 x]]) (fun p3=>[(4,.pointer (some ⟨(p1 1).N,0,none⟩)),(6,.bool false)]) (by kernel_rfl) (fun _ _=>by kernel_rfl) (fun _=>by kernel_rfl) (fun _=>by kernel_rfl) (fun p3=>?_) (fun p3 W3 T hF hK=>?_)
 ·refine ok_L (by kernel_rfl) (by kernel_rfl) (by kernel_rfl) ?_
  refine ok_P (by kernel_rfl) (by kernel_rfl) (by kernel_rfl) ?_
  exact ok_nil
 replace hS:=SymF.fb hS hF [1] [⟨(p1 1).N,#[.bool g,.string s,.int .i64 x],23,true⟩] (by kernel_rfl) (by kernel_rfl)
 replace hG:=hF.gx
 clear hF
 have z3:=hS.fr.size
 refine wp_ret ?_
 exact sym_end hS hK (.agg #[.bool g,.string s,.int .i64 x]) [(0,0,3)] [.bool g,.string s,.int .i64 x] (by kernel_rfl) (by kernel_rfl) ⟨rfl,hS.fr⟩
theorem rsh_e (w:World) (g:Bool) (s:ByteArray) (x:Int) (n:Int) (e1:Int) (he:e1≠0) (HC:Hid (∀ W:World,Calls Tryd.prog 14 #[.agg #[.bool g,.string s,.int .i64 x]] W fun e W'=>e = .returned (.int .i64 e1)∧Below W.heap.size W W')) :
  Calls Tryd.prog 10 #[.agg #[.bool g,.string s,.int .i64 x],.int .i64 n] w fun en w'=>en = .returned (.tuple #[.agg #[.bool false,.string ⟨#[]⟩,.int .i64 0],.int .i64 e1])∧Below w.heap.size w w':=by
 refine calls_sym Tryd.func10 rfl (by kernel_rfl) fun T hK=>?_
 replace hK:Kn T _ [(0,.agg #[.bool g,.string s,.int .i64 x]),(1,.int .i64 n)]:=hK
 have hS:=Fb.begin w
 have hG:GsAt [] w:=trivial
 refine wp_symQ hS hG hK (fun p1=>[.n 2 #[.bool g,.string s,.int .i64 x] 23,.n 4 #[.bool false,.string ⟨#[]⟩,.int .i64 0] 23,.v 5 (.int .i64 0)]) (fun p1=>[(1,.int .i64 n),(2,.pointer (some ⟨(p1 0).N,0,none⟩)),(4,.pointer (some ⟨(p1 1).N,0,none⟩)),(5,.int .i64 0)]) (by kernel_rfl) (fun _ _=>by kernel_rfl) (fun _=>by kernel_rfl) (fun _=>by kernel_rfl) (fun p1=>?_) (fun p1 W1 T hF hK=>?_)
 ·iterate 2 refine ok_n (fun _=>by kernel_rfl) ?_
  refine ok_v (by kernel_rfl) ?_
  exact ok_nil
 replace hS:=SymF.fb hS hF [1000,1001] [⟨(p1 0).N,#[.bool g,.string s,.int .i64 x],23,true⟩,⟨(p1 1).N,#[.bool false,.string ⟨#[]⟩,.int .i64 0],23,true⟩] (by kernel_rfl) (by kernel_rfl)
 replace hG:=hF.gx
 clear hF
 have z1:=hS.fr.size
 refine wp_symQ hS hG hK (fun p2=>[.l 7 (.agg #[.bool g,.string s,.int .i64 x]) 0 0,.c (some 8) (cV (.int .i64 e1)),.v 6 (.int .i64 e1)]) (fun p2=>[(1,.int .i64 n),(2,.pointer (some ⟨(p1 0).N,0,none⟩)),(4,.pointer (some ⟨(p1 1).N,0,none⟩)),(5,.int .i64 0),(6,.int .i64 e1)]) (by kernel_rfl) (fun _ _=>by kernel_rfl) (fun _=>by kernel_rfl) (fun _=>by kernel_rfl) (fun p2=>?_) (fun p2 W2 T hF hK=>?_)
 ·refine ok_L (by kernel_rfl) (by kernel_rfl) (by kernel_rfl) ?_
  refine ok_c (fun W cx=>as_v (unhide HC _)) (by kernel_rfl) ?_
  refine ok_v (by kernel_rfl) ?_
  exact ok_nil
 replace hS:=SymF.fb hS hF [0,1] [⟨(p1 0).N,#[.bool g,.string s,.int .i64 x],23,true⟩,⟨(p1 1).N,#[.bool false,.string ⟨#[]⟩,.int .i64 0],23,true⟩] (by kernel_rfl) (by kernel_rfl)
 replace hG:=hF.gx
 clear hF
 have z2:=hS.fr.size
 refine wp_seq ?_
 refine wp_symQ hS hG hK (fun p3=>[.v 9 (.int .i64 e1),.v 10 (.bool true),.v 11 (.bool true),.k (some 12),.k (some 13),.v 14 (.bool true)]) (fun p3=>[(1,.int .i64 n),(2,.pointer (some ⟨(p1 0).N,0,none⟩)),(4,.pointer (some ⟨(p1 1).N,0,none⟩)),(5,.int .i64 0),(6,.int .i64 e1),(14,.bool true)]) (by kernel_rfl) (fun _ _=>by kernel_rfl) (fun _=>by kernel_rfl) (fun _=>by kernel_rfl) (fun p3=>?_) (fun p3 W3 T hF hK=>?_)
 ·refine ok_v (by kernel_rfl) ?_
  refine ok_vb (bne_iff_ne.2 he) (by kernel_rfl) ?_
  refine ok_v (by kernel_rfl) ?_
  iterate 2 refine ok_K (by kernel_rfl) ?_
  refine ok_v (by kernel_rfl) ?_
  exact ok_nil
 replace hS:=SymF.fb hS hF [0,1] [⟨(p1 0).N,#[.bool g,.string s,.int .i64 x],23,true⟩,⟨(p1 1).N,#[.bool false,.string ⟨#[]⟩,.int .i64 0],23,true⟩] (by kernel_rfl) (by kernel_rfl)
 replace hG:=hF.gx
 clear hF
 have z3:=hS.fr.size
 refine wp_cond_true (hK.ev 14 (by kernel_rfl) _ (by kernel_rfl)) ?_
 refine wp_symQ hS hG hK (fun p4=>[.l 15 (.agg #[.bool g,.string s,.int .i64 x]) 0 0,.v 16 (.int .i64 e1),.c (some 17) (cV (.agg #[.bool false,.string ⟨#[]⟩,.int .i64 0])),.v 18 (.int .i64 e1),.p 1 0 [.bool false,.string ⟨#[]⟩,.int .i64 0],.v 5 (.int .i64 e1)]) (fun p4=>[(1,.int .i64 n),(2,.pointer (some ⟨(p1 0).N,0,none⟩)),(4,.pointer (some ⟨(p1 1).N,0,none⟩)),(5,.int .i64 e1),(14,.bool true)]) (by kernel_rfl) (fun _ _=>by kernel_rfl) (fun _=>by kernel_rfl) (fun _=>by kernel_rfl) (fun p4=>?_) (fun p4 W4 T hF hK=>?_)
 ·refine ok_L (by kernel_rfl) (by kernel_rfl) (by kernel_rfl) ?_
  refine ok_v (by kernel_rfl) ?_
  refine ok_c (fun W cx=>as_v (rd0_e _ g s x e1 he)) (by kernel_rfl) ?_
  refine ok_v (by kernel_rfl) ?_
  refine ok_P (by kernel_rfl) (by kernel_rfl) (by kernel_rfl) ?_
  refine ok_v (by kernel_rfl) ?_
  exact ok_nil
 replace hS:=SymF.fb hS hF [0,1] [⟨(p1 0).N,#[.bool g,.string s,.int .i64 x],23,true⟩,⟨(p1 1).N,#[.bool false,.string ⟨#[]⟩,.int .i64 0],23,true⟩] (by kernel_rfl) (by kernel_rfl)
 replace hG:=hF.gx
 clear hF
 have z4:=hS.fr.size
 refine wp_ret ?_
 refine then_r ?_
 exact sym_end hS hK (.tuple #[.agg #[.bool false,.string ⟨#[]⟩,.int .i64 0],.int .i64 e1]) [(1,0,3)] [.bool false,.string ⟨#[]⟩,.int .i64 0] (by kernel_rfl) (by kernel_rfl) ⟨rfl,hS.fr⟩
theorem rsh_z (w:World) (g:Bool) (s:ByteArray) (x:Int) (n:Int) (hz:s.size = 0) (HC:Hid (∀ W:World,Calls Tryd.prog 14 #[.agg #[.bool g,.string s,.int .i64 x]] W fun e W'=>e = .returned (.int .i64 0)∧Below W.heap.size W W')) :
  Calls Tryd.prog 10 #[.agg #[.bool g,.string s,.int .i64 x],.int .i64 n] w fun en w'=>en = .returned (.tuple #[.agg #[.bool g,.string s,.int .i64 x],.int .i64 0])∧Below w.heap.size w w':=by
 refine calls_sym Tryd.func10 rfl (by kernel_rfl) fun T hK=>?_
 replace hK:Kn T _ [(0,.agg #[.bool g,.string s,.int .i64 x]),(1,.int .i64 n)]:=hK
 have hS:=Fb.begin w
 have hG:GsAt [] w:=trivial
 refine wp_symQ hS hG hK (fun p1=>[.n 2 #[.bool g,.string s,.int .i64 x] 23,.n 4 #[.bool false,.string ⟨#[]⟩,.int .i64 0] 23,.v 5 (.int .i64 0)]) (fun p1=>[(1,.int .i64 n),(2,.pointer (some ⟨(p1 0).N,0,none⟩)),(4,.pointer (some ⟨(p1 1).N,0,none⟩)),(5,.int .i64 0)]) (by kernel_rfl) (fun _ _=>by kernel_rfl) (fun _=>by kernel_rfl) (fun _=>by kernel_rfl) (fun p1=>?_) (fun p1 W1 T hF hK=>?_)
 ·iterate 2 refine ok_n (fun _=>by kernel_rfl) ?_
  refine ok_v (by kernel_rfl) ?_
  exact ok_nil
 replace hS:=SymF.fb hS hF [1000,1001] [⟨(p1 0).N,#[.bool g,.string s,.int .i64 x],23,true⟩,⟨(p1 1).N,#[.bool false,.string ⟨#[]⟩,.int .i64 0],23,true⟩] (by kernel_rfl) (by kernel_rfl)
 replace hG:=hF.gx
 clear hF
 have z1:=hS.fr.size
 refine wp_symQ hS hG hK (fun p2=>[.l 7 (.agg #[.bool g,.string s,.int .i64 x]) 0 0,.c (some 8) (cV (.int .i64 0)),.v 6 (.int .i64 0)]) (fun p2=>[(1,.int .i64 n),(2,.pointer (some ⟨(p1 0).N,0,none⟩)),(4,.pointer (some ⟨(p1 1).N,0,none⟩)),(5,.int .i64 0),(6,.int .i64 0)]) (by kernel_rfl) (fun _ _=>by kernel_rfl) (fun _=>by kernel_rfl) (fun _=>by kernel_rfl) (fun p2=>?_) (fun p2 W2 T hF hK=>?_)
 ·refine ok_L (by kernel_rfl) (by kernel_rfl) (by kernel_rfl) ?_
  refine ok_c (fun W cx=>as_v (unhide HC _)) (by kernel_rfl) ?_
  refine ok_v (by kernel_rfl) ?_
  exact ok_nil
 replace hS:=SymF.fb hS hF [0,1] [⟨(p1 0).N,#[.bool g,.string s,.int .i64 x],23,true⟩,⟨(p1 1).N,#[.bool false,.string ⟨#[]⟩,.int .i64 0],23,true⟩] (by kernel_rfl) (by kernel_rfl)
 replace hG:=hF.gx
 clear hF
 have z2:=hS.fr.size
 refine wp_seq ?_
 refine wp_symQ hS hG hK (fun p3=>[.v 9 (.int .i64 0),.v 10 (.bool false),.v 11 (.bool false),.l 12 (.agg #[.bool g,.string s,.int .i64 x]) 0 0,.c (some 13) (cV (.bool true)),.v 14 (.bool true)]) (fun p3=>[(1,.int .i64 n),(2,.pointer (some ⟨(p1 0).N,0,none⟩)),(4,.pointer (some ⟨(p1 1).N,0,none⟩)),(5,.int .i64 0),(6,.int .i64 0),(14,.bool true)]) (by kernel_rfl) (fun _ _=>by kernel_rfl) (fun _=>by kernel_rfl) (fun _=>by kernel_rfl) (fun p3=>?_) (fun p3 W3 T hF hK=>?_)
 ·iterate 3 refine ok_v (by kernel_rfl) ?_
  refine ok_L (by kernel_rfl) (by kernel_rfl) (by kernel_rfl) ?_
  refine ok_c (fun W cx=>as_v (rnone_t _ g s x hz)) (by kernel_rfl) ?_
  refine ok_v (by kernel_rfl) ?_
  exact ok_nil
 replace hS:=SymF.fb hS hF [0,1] [⟨(p1 0).N,#[.bool g,.string s,.int .i64 x],23,true⟩,⟨(p1 1).N,#[.bool false,.string ⟨#[]⟩,.int .i64 0],23,true⟩] (by kernel_rfl) (by kernel_rfl)
 replace hG:=hF.gx
 clear hF
 have z3:=hS.fr.size
 refine wp_cond_true (hK.ev 14 (by kernel_rfl) _ (by kernel_rfl)) ?_
 refine wp_symQ hS hG hK (fun p4=>[.l 15 (.agg #[.bool g,.string s,.int .i64 x]) 0 0,.v 16 (.int .i64 0),.c (some 17) (cV (.agg #[.bool g,.string s,.int .i64 x])),.v 18 (.int .i64 0),.p 1 0 [.bool g,.string s,.int .i64 x],.v 5 (.int .i64 0)]) (fun p4=>[(1,.int .i64 n),(2,.pointer (some ⟨(p1 0).N,0,none⟩)),(4,.pointer (some ⟨(p1 1).N,0,none⟩)),(5,.int .i64 0),(14,.bool true)]) (by kernel_rfl) (fun _ _=>by kernel_rfl) (fun _=>by kernel_rfl) (fun _=>by kernel_rfl) (fun p4=>?_) (fun p4 W4 T hF hK=>?_)
 ·refine ok_L (by kernel_rfl) (by kernel_rfl) (by kernel_rfl) ?_
  refine ok_v (by kernel_rfl) ?_
  refine ok_c (fun W cx=>as_v (rd0_o _ g s x)) (by kernel_rfl) ?_
  refine ok_v (by kernel_rfl) ?_
  refine ok_P (by kernel_rfl) (by kernel_rfl) (by kernel_rfl) ?_
  refine ok_v (by kernel_rfl) ?_
  exact ok_nil
 replace hS:=SymF.fb hS hF [0,1] [⟨(p1 0).N,#[.bool g,.string s,.int .i64 x],23,true⟩,⟨(p1 1).N,#[.bool g,.string s,.int .i64 x],23,true⟩] (by kernel_rfl) (by kernel_rfl)
 replace hG:=hF.gx
 clear hF
 have z4:=hS.fr.size
 refine wp_ret ?_
 refine then_r ?_
 exact sym_end hS hK (.tuple #[.agg #[.bool g,.string s,.int .i64 x],.int .i64 0]) [(1,0,3)] [.bool g,.string s,.int .i64 x] (by kernel_rfl) (by kernel_rfl) ⟨rfl,hS.fr⟩
theorem rsh_hi (w:World) (g:Bool) (s:ByteArray) (x:Int) (n:Int) (hn:2147483648 < n) (hz:s.size≠0) (HC:Hid (∀ W:World,Calls Tryd.prog 14 #[.agg #[.bool g,.string s,.int .i64 x]] W fun e W'=>e = .returned (.int .i64 0)∧Below W.heap.size W W')) :
  Calls Tryd.prog 10 #[.agg #[.bool g,.string s,.int .i64 x],.int .i64 n] w fun en w'=>en = .returned (.tuple #[.agg #[.bool false,.string ⟨#[]⟩,.int .i64 0],.int .i64 4])∧Below w.heap.size w w':=by
 refine calls_sym Tryd.func10 rfl (by kernel_rfl) fun T hK=>?_
 replace hK:Kn T _ [(0,.agg #[.bool g,.string s,.int .i64 x]),(1,.int .i64 n)]:=hK
 have hS:=Fb.begin w
 have hG:GsAt [] w:=trivial
 refine wp_symQ hS hG hK (fun p1=>[.n 2 #[.bool g,.string s,.int .i64 x] 23,.n 4 #[.bool false,.string ⟨#[]⟩,.int .i64 0] 23,.v 5 (.int .i64 0)]) (fun p1=>[(1,.int .i64 n),(2,.pointer (some ⟨(p1 0).N,0,none⟩)),(4,.pointer (some ⟨(p1 1).N,0,none⟩)),(5,.int .i64 0)]) (by kernel_rfl) (fun _ _=>by kernel_rfl) (fun _=>by kernel_rfl) (fun _=>by kernel_rfl) (fun p1=>?_) (fun p1 W1 T hF hK=>?_)
 ·iterate 2 refine ok_n (fun _=>by kernel_rfl) ?_
  refine ok_v (by kernel_rfl) ?_
  exact ok_nil
 replace hS:=SymF.fb hS hF [1000,1001] [⟨(p1 0).N,#[.bool g,.string s,.int .i64 x],23,true⟩,⟨(p1 1).N,#[.bool false,.string ⟨#[]⟩,.int .i64 0],23,true⟩] (by kernel_rfl) (by kernel_rfl)
 replace hG:=hF.gx
 clear hF
 have z1:=hS.fr.size
 refine wp_symQ hS hG hK (fun p2=>[.l 7 (.agg #[.bool g,.string s,.int .i64 x]) 0 0,.c (some 8) (cV (.int .i64 0)),.v 6 (.int .i64 0)]) (fun p2=>[(1,.int .i64 n),(2,.pointer (some ⟨(p1 0).N,0,none⟩)),(4,.pointer (some ⟨(p1 1).N,0,none⟩)),(5,.int .i64 0),(6,.int .i64 0)]) (by kernel_rfl) (fun _ _=>by kernel_rfl) (fun _=>by kernel_rfl) (fun _=>by kernel_rfl) (fun p2=>?_) (fun p2 W2 T hF hK=>?_)
 ·refine ok_L (by kernel_rfl) (by kernel_rfl) (by kernel_rfl) ?_
  refine ok_c (fun W cx=>as_v (unhide HC _)) (by kernel_rfl) ?_
  refine ok_v (by kernel_rfl) ?_
  exact ok_nil
 replace hS:=SymF.fb hS hF [0,1] [⟨(p1 0).N,#[.bool g,.string s,.int .i64 x],23,true⟩,⟨(p1 1).N,#[.bool false,.string ⟨#[]⟩,.int .i64 0],23,true⟩] (by kernel_rfl) (by kernel_rfl)
 replace hG:=hF.gx
 clear hF
 have z2:=hS.fr.size
 refine wp_seq ?_
 refine wp_symQ hS hG hK (fun p3=>[.v 9 (.int .i64 0),.v 10 (.bool false),.v 11 (.bool false),.l 12 (.agg #[.bool g,.string s,.int .i64 x]) 0 0,.c (some 13) (cV (.bool false)),.v 14 (.bool false)]) (fun p3=>[(1,.int .i64 n),(2,.pointer (some ⟨(p1 0).N,0,none⟩)),(4,.pointer (some ⟨(p1 1).N,0,none⟩)),(5,.int .i64 0),(6,.int .i64 0),(14,.bool false)]) (by kernel_rfl) (fun _ _=>by kernel_rfl) (fun _=>by kernel_rfl) (fun _=>by kernel_rfl) (fun p3=>?_) (fun p3 W3 T hF hK=>?_)
 ·iterate 3 refine ok_v (by kernel_rfl) ?_
  refine ok_L (by kernel_rfl) (by kernel_rfl) (by kernel_rfl) ?_
  refine ok_c (fun W cx=>as_v (rnone_f _ g s x hz)) (by kernel_rfl) ?_
  refine ok_v (by kernel_rfl) ?_
  exact ok_nil
 replace hS:=SymF.fb hS hF [0,1] [⟨(p1 0).N,#[.bool g,.string s,.int .i64 x],23,true⟩,⟨(p1 1).N,#[.bool false,.string ⟨#[]⟩,.int .i64 0],23,true⟩] (by kernel_rfl) (by kernel_rfl)
 replace hG:=hF.gx
 clear hF
 have z3:=hS.fr.size
 refine wp_cond_false (hK.ev 14 (by kernel_rfl) _ (by kernel_rfl)) ?_
 refine wp_skip ?_
 refine then_n ?_
 refine wp_seq ?_
 refine wp_symQ hS hG hK (fun p4=>[.v 19 (.int .i64 n),.v 20 (.bool true),.v 21 (.bool true),.k (some 22),.k (some 23),.v 24 (.bool true),.v 25 (.bool true),.k (some 26),.k (some 27),.k (some 28),.k (some 29),.k (some 30),.v 31 (.bool true)]) (fun p4=>[(1,.int .i64 n),(2,.pointer (some ⟨(p1 0).N,0,none⟩)),(4,.pointer (some ⟨(p1 1).N,0,none⟩)),(5,.int .i64 0),(6,.int .i64 0),(14,.bool false),(31,.bool true)]) (by kernel_rfl) (fun _ _=>by kernel_rfl) (fun _=>by kernel_rfl) (fun _=>by kernel_rfl) (fun p4=>?_) (fun p4 W4 T hF hK=>?_)
 ·refine ok_v (by kernel_rfl) ?_
  refine ok_vb (decide_eq_true (show n > 2147483648 by omega)) (by kernel_rfl) ?_
  refine ok_v (by kernel_rfl) ?_
  iterate 2 refine ok_K (by kernel_rfl) ?_
  iterate 2 refine ok_v (by kernel_rfl) ?_
  iterate 5 refine ok_K (by kernel_rfl) ?_
  refine ok_v (by kernel_rfl) ?_
  exact ok_nil
 replace hS:=SymF.fb hS hF [0,1] [⟨(p1 0).N,#[.bool g,.string s,.int .i64 x],23,true⟩,⟨(p1 1).N,#[.bool false,.string ⟨#[]⟩,.int .i64 0],23,true⟩] (by kernel_rfl) (by kernel_rfl)
 replace hG:=hF.gx
 clear hF
 have z4:=hS.fr.size
 refine wp_cond_true (hK.ev 31 (by kernel_rfl) _ (by kernel_rfl)) ?_
 refine wp_symQ hS hG hK (fun p5=>[.v 32 (.agg #[.bool false,.string ⟨#[]⟩,.int .i64 0]),.p 1 0 [.bool false,.string ⟨#[]⟩,.int .i64 0],.v 5 (.int .i64 4)]) (fun p5=>[(1,.int .i64 n),(2,.pointer (some ⟨(p1 0).N,0,none⟩)),(4,.pointer (some ⟨(p1 1).N,0,none⟩)),(5,.int .i64 4),(6,.int .i64 0),(14,.bool false),(31,.bool true)]) (by kernel_rfl) (fun _ _=>by kernel_rfl) (fun _=>by kernel_rfl) (fun _=>by kernel_rfl) (fun p5=>?_) (fun p5 W5 T hF hK=>?_)
 ·refine ok_v (by kernel_rfl) ?_
  refine ok_P (by kernel_rfl) (by kernel_rfl) (by kernel_rfl) ?_
  refine ok_v (by kernel_rfl) ?_
  exact ok_nil
 replace hS:=SymF.fb hS hF [0,1] [⟨(p1 0).N,#[.bool g,.string s,.int .i64 x],23,true⟩,⟨(p1 1).N,#[.bool false,.string ⟨#[]⟩,.int .i64 0],23,true⟩] (by kernel_rfl) (by kernel_rfl)
 replace hG:=hF.gx
 clear hF
 have z5:=hS.fr.size
 refine wp_ret ?_
 refine then_r ?_
 exact sym_end hS hK (.tuple #[.agg #[.bool false,.string ⟨#[]⟩,.int .i64 0],.int .i64 4]) [(1,0,3)] [.bool false,.string ⟨#[]⟩,.int .i64 0] (by kernel_rfl) (by kernel_rfl) ⟨rfl,hS.fr⟩
theorem rsh_lo (w:World) (g:Bool) (s:ByteArray) (x:Int) (n:Int) (hn:n < -2147483648) (hz:s.size≠0) (HC:Hid (∀ W:World,Calls Tryd.prog 14 #[.agg #[.bool g,.string s,.int .i64 x]] W fun e W'=>e = .returned (.int .i64 0)∧Below W.heap.size W W')) :
  Calls Tryd.prog 10 #[.agg #[.bool g,.string s,.int .i64 x],.int .i64 n] w fun en w'=>en = .returned (.tuple #[.agg #[.bool false,.string ⟨#[]⟩,.int .i64 0],.int .i64 4])∧Below w.heap.size w w':=by
 refine calls_sym Tryd.func10 rfl (by kernel_rfl) fun T hK=>?_
 replace hK:Kn T _ [(0,.agg #[.bool g,.string s,.int .i64 x]),(1,.int .i64 n)]:=hK
 have hS:=Fb.begin w
 have hG:GsAt [] w:=trivial
 refine wp_symQ hS hG hK (fun p1=>[.n 2 #[.bool g,.string s,.int .i64 x] 23,.n 4 #[.bool false,.string ⟨#[]⟩,.int .i64 0] 23,.v 5 (.int .i64 0)]) (fun p1=>[(1,.int .i64 n),(2,.pointer (some ⟨(p1 0).N,0,none⟩)),(4,.pointer (some ⟨(p1 1).N,0,none⟩)),(5,.int .i64 0)]) (by kernel_rfl) (fun _ _=>by kernel_rfl) (fun _=>by kernel_rfl) (fun _=>by kernel_rfl) (fun p1=>?_) (fun p1 W1 T hF hK=>?_)
 ·iterate 2 refine ok_n (fun _=>by kernel_rfl) ?_
  refine ok_v (by kernel_rfl) ?_
  exact ok_nil
 replace hS:=SymF.fb hS hF [1000,1001] [⟨(p1 0).N,#[.bool g,.string s,.int .i64 x],23,true⟩,⟨(p1 1).N,#[.bool false,.string ⟨#[]⟩,.int .i64 0],23,true⟩] (by kernel_rfl) (by kernel_rfl)
 replace hG:=hF.gx
 clear hF
 have z1:=hS.fr.size
 refine wp_symQ hS hG hK (fun p2=>[.l 7 (.agg #[.bool g,.string s,.int .i64 x]) 0 0,.c (some 8) (cV (.int .i64 0)),.v 6 (.int .i64 0)]) (fun p2=>[(1,.int .i64 n),(2,.pointer (some ⟨(p1 0).N,0,none⟩)),(4,.pointer (some ⟨(p1 1).N,0,none⟩)),(5,.int .i64 0),(6,.int .i64 0)]) (by kernel_rfl) (fun _ _=>by kernel_rfl) (fun _=>by kernel_rfl) (fun _=>by kernel_rfl) (fun p2=>?_) (fun p2 W2 T hF hK=>?_)
 ·refine ok_L (by kernel_rfl) (by kernel_rfl) (by kernel_rfl) ?_
  refine ok_c (fun W cx=>as_v (unhide HC _)) (by kernel_rfl) ?_
  refine ok_v (by kernel_rfl) ?_
  exact ok_nil
 replace hS:=SymF.fb hS hF [0,1] [⟨(p1 0).N,#[.bool g,.string s,.int .i64 x],23,true⟩,⟨(p1 1).N,#[.bool false,.string ⟨#[]⟩,.int .i64 0],23,true⟩] (by kernel_rfl) (by kernel_rfl)
 replace hG:=hF.gx
 clear hF
 have z2:=hS.fr.size
 refine wp_seq ?_
 refine wp_symQ hS hG hK (fun p3=>[.v 9 (.int .i64 0),.v 10 (.bool false),.v 11 (.bool false),.l 12 (.agg #[.bool g,.string s,.int .i64 x]) 0 0,.c (some 13) (cV (.bool false)),.v 14 (.bool false)]) (fun p3=>[(1,.int .i64 n),(2,.pointer (some ⟨(p1 0).N,0,none⟩)),(4,.pointer (some ⟨(p1 1).N,0,none⟩)),(5,.int .i64 0),(6,.int .i64 0),(14,.bool false)]) (by kernel_rfl) (fun _ _=>by kernel_rfl) (fun _=>by kernel_rfl) (fun _=>by kernel_rfl) (fun p3=>?_) (fun p3 W3 T hF hK=>?_)
 ·iterate 3 refine ok_v (by kernel_rfl) ?_
  refine ok_L (by kernel_rfl) (by kernel_rfl) (by kernel_rfl) ?_
  refine ok_c (fun W cx=>as_v (rnone_f _ g s x hz)) (by kernel_rfl) ?_
  refine ok_v (by kernel_rfl) ?_
  exact ok_nil
 replace hS:=SymF.fb hS hF [0,1] [⟨(p1 0).N,#[.bool g,.string s,.int .i64 x],23,true⟩,⟨(p1 1).N,#[.bool false,.string ⟨#[]⟩,.int .i64 0],23,true⟩] (by kernel_rfl) (by kernel_rfl)
 replace hG:=hF.gx
 clear hF
 have z3:=hS.fr.size
 refine wp_cond_false (hK.ev 14 (by kernel_rfl) _ (by kernel_rfl)) ?_
 refine wp_skip ?_
 refine then_n ?_
 refine wp_seq ?_
 refine wp_symQ hS hG hK (fun p4=>[.v 19 (.int .i64 n),.v 20 (.bool false),.v 21 (.bool false),.v 22 (.int .i64 n),.v 23 (.bool true),.v 24 (.bool true),.v 25 (.bool true),.k (some 26),.k (some 27),.k (some 28),.k (some 29),.k (some 30),.v 31 (.bool true)]) (fun p4=>[(1,.int .i64 n),(2,.pointer (some ⟨(p1 0).N,0,none⟩)),(4,.pointer (some ⟨(p1 1).N,0,none⟩)),(5,.int .i64 0),(6,.int .i64 0),(14,.bool false),(31,.bool true)]) (by kernel_rfl) (fun _ _=>by kernel_rfl) (fun _=>by kernel_rfl) (fun _=>by kernel_rfl) (fun p4=>?_) (fun p4 W4 T hF hK=>?_)
 ·refine ok_v (by kernel_rfl) ?_
  refine ok_vb (decide_eq_false (show ¬ n > 2147483648 by omega)) (by kernel_rfl) ?_
  iterate 2 refine ok_v (by kernel_rfl) ?_
  refine ok_vb (decide_eq_true (show n < -2147483648 by omega)) (by kernel_rfl) ?_
  iterate 2 refine ok_v (by kernel_rfl) ?_
  iterate 5 refine ok_K (by kernel_rfl) ?_
  refine ok_v (by kernel_rfl) ?_
  exact ok_nil
 replace hS:=SymF.fb hS hF [0,1] [⟨(p1 0).N,#[.bool g,.string s,.int .i64 x],23,true⟩,⟨(p1 1).N,#[.bool false,.string ⟨#[]⟩,.int .i64 0],23,true⟩] (by kernel_rfl) (by kernel_rfl)
 replace hG:=hF.gx
 clear hF
 have z4:=hS.fr.size
 refine wp_cond_true (hK.ev 31 (by kernel_rfl) _ (by kernel_rfl)) ?_
 refine wp_symQ hS hG hK (fun p5=>[.v 32 (.agg #[.bool false,.string ⟨#[]⟩,.int .i64 0]),.p 1 0 [.bool false,.string ⟨#[]⟩,.int .i64 0],.v 5 (.int .i64 4)]) (fun p5=>[(1,.int .i64 n),(2,.pointer (some ⟨(p1 0).N,0,none⟩)),(4,.pointer (some ⟨(p1 1).N,0,none⟩)),(5,.int .i64 4),(6,.int .i64 0),(14,.bool false),(31,.bool true)]) (by kernel_rfl) (fun _ _=>by kernel_rfl) (fun _=>by kernel_rfl) (fun _=>by kernel_rfl) (fun p5=>?_) (fun p5 W5 T hF hK=>?_)
 ·refine ok_v (by kernel_rfl) ?_
  refine ok_P (by kernel_rfl) (by kernel_rfl) (by kernel_rfl) ?_
  refine ok_v (by kernel_rfl) ?_
  exact ok_nil
 replace hS:=SymF.fb hS hF [0,1] [⟨(p1 0).N,#[.bool g,.string s,.int .i64 x],23,true⟩,⟨(p1 1).N,#[.bool false,.string ⟨#[]⟩,.int .i64 0],23,true⟩] (by kernel_rfl) (by kernel_rfl)
 replace hG:=hF.gx
 clear hF
 have z5:=hS.fr.size
 refine wp_ret ?_
 refine then_r ?_
 exact sym_end hS hK (.tuple #[.agg #[.bool false,.string ⟨#[]⟩,.int .i64 0],.int .i64 4]) [(1,0,3)] [.bool false,.string ⟨#[]⟩,.int .i64 0] (by kernel_rfl) (by kernel_rfl) ⟨rfl,hS.fr⟩
theorem rsh_far (w:World) (g:Bool) (s:ByteArray) (x:Int) (n:Int) (y:Int) (hx0:-1073741824≤x) (hx1:x≤1073741824) (hn0:-2147483648≤n) (hn1:n≤2147483648) (hy:x+n = y) (hz:s.size≠0) (HC:Hid (∀ W:World,Calls Tryd.prog 14 #[.agg #[.bool g,.string s,.int .i64 x]] W fun e W'=>e = .returned (.int .i64 0)∧Below W.heap.size W W')) (HF:Hid (∀ W:World,Calls Tryd.prog 23 #[.int .i64 y] W fun e W'=>e = .returned (.bool true)∧Below W.heap.size W W')) :
  Calls Tryd.prog 10 #[.agg #[.bool g,.string s,.int .i64 x],.int .i64 n] w fun en w'=>en = .returned (.tuple #[.agg #[.bool false,.string ⟨#[]⟩,.int .i64 0],.int .i64 4])∧Below w.heap.size w w':=by
 refine calls_sym Tryd.func10 rfl (by kernel_rfl) fun T hK=>?_
 replace hK:Kn T _ [(0,.agg #[.bool g,.string s,.int .i64 x]),(1,.int .i64 n)]:=hK
 have hS:=Fb.begin w
 have hG:GsAt [] w:=trivial
 refine wp_symQ hS hG hK (fun p1=>[.n 2 #[.bool g,.string s,.int .i64 x] 23,.n 4 #[.bool false,.string ⟨#[]⟩,.int .i64 0] 23,.v 5 (.int .i64 0)]) (fun p1=>[(1,.int .i64 n),(2,.pointer (some ⟨(p1 0).N,0,none⟩)),(4,.pointer (some ⟨(p1 1).N,0,none⟩)),(5,.int .i64 0)]) (by kernel_rfl) (fun _ _=>by kernel_rfl) (fun _=>by kernel_rfl) (fun _=>by kernel_rfl) (fun p1=>?_) (fun p1 W1 T hF hK=>?_)
 ·iterate 2 refine ok_n (fun _=>by kernel_rfl) ?_
  refine ok_v (by kernel_rfl) ?_
  exact ok_nil
 replace hS:=SymF.fb hS hF [1000,1001] [⟨(p1 0).N,#[.bool g,.string s,.int .i64 x],23,true⟩,⟨(p1 1).N,#[.bool false,.string ⟨#[]⟩,.int .i64 0],23,true⟩] (by kernel_rfl) (by kernel_rfl)
 replace hG:=hF.gx
 clear hF
 have z1:=hS.fr.size
 refine wp_symQ hS hG hK (fun p2=>[.l 7 (.agg #[.bool g,.string s,.int .i64 x]) 0 0,.c (some 8) (cV (.int .i64 0)),.v 6 (.int .i64 0)]) (fun p2=>[(1,.int .i64 n),(2,.pointer (some ⟨(p1 0).N,0,none⟩)),(4,.pointer (some ⟨(p1 1).N,0,none⟩)),(5,.int .i64 0),(6,.int .i64 0)]) (by kernel_rfl) (fun _ _=>by kernel_rfl) (fun _=>by kernel_rfl) (fun _=>by kernel_rfl) (fun p2=>?_) (fun p2 W2 T hF hK=>?_)
 ·refine ok_L (by kernel_rfl) (by kernel_rfl) (by kernel_rfl) ?_
  refine ok_c (fun W cx=>as_v (unhide HC _)) (by kernel_rfl) ?_
  refine ok_v (by kernel_rfl) ?_
  exact ok_nil
 replace hS:=SymF.fb hS hF [0,1] [⟨(p1 0).N,#[.bool g,.string s,.int .i64 x],23,true⟩,⟨(p1 1).N,#[.bool false,.string ⟨#[]⟩,.int .i64 0],23,true⟩] (by kernel_rfl) (by kernel_rfl)
 replace hG:=hF.gx
 clear hF
 have z2:=hS.fr.size
 refine wp_seq ?_
 refine wp_symQ hS hG hK (fun p3=>[.v 9 (.int .i64 0),.v 10 (.bool false),.v 11 (.bool false),.l 12 (.agg #[.bool g,.string s,.int .i64 x]) 0 0,.c (some 13) (cV (.bool false)),.v 14 (.bool false)]) (fun p3=>[(1,.int .i64 n),(2,.pointer (some ⟨(p1 0).N,0,none⟩)),(4,.pointer (some ⟨(p1 1).N,0,none⟩)),(5,.int .i64 0),(6,.int .i64 0),(14,.bool false)]) (by kernel_rfl) (fun _ _=>by kernel_rfl) (fun _=>by kernel_rfl) (fun _=>by kernel_rfl) (fun p3=>?_) (fun p3 W3 T hF hK=>?_)
 ·iterate 3 refine ok_v (by kernel_rfl) ?_
  refine ok_L (by kernel_rfl) (by kernel_rfl) (by kernel_rfl) ?_
  refine ok_c (fun W cx=>as_v (rnone_f _ g s x hz)) (by kernel_rfl) ?_
  refine ok_v (by kernel_rfl) ?_
  exact ok_nil
 replace hS:=SymF.fb hS hF [0,1] [⟨(p1 0).N,#[.bool g,.string s,.int .i64 x],23,true⟩,⟨(p1 1).N,#[.bool false,.string ⟨#[]⟩,.int .i64 0],23,true⟩] (by kernel_rfl) (by kernel_rfl)
 replace hG:=hF.gx
 clear hF
 have z3:=hS.fr.size
 refine wp_cond_false (hK.ev 14 (by kernel_rfl) _ (by kernel_rfl)) ?_
 refine wp_skip ?_
 refine then_n ?_
 refine wp_seq ?_
 refine wp_symQ hS hG hK (fun p4=>[.v 19 (.int .i64 n),.v 20 (.bool false),.v 21 (.bool false),.v 22 (.int .i64 n),.v 23 (.bool false),.v 24 (.bool false),.v 25 (.bool false),.v 26 (.pointer (some ⟨(p1 0).N,2,none⟩)),.l 27 (.int .i64 x) 0 2,.v 28 (.int .i64 n),.v 29 (.int .i64 y),.c (some 30) (cV (.bool true)),.v 31 (.bool true)]) (fun p4=>[(1,.int .i64 n),(2,.pointer (some ⟨(p1 0).N,0,none⟩)),(4,.pointer (some ⟨(p1 1).N,0,none⟩)),(5,.int .i64 0),(6,.int .i64 0),(14,.bool false),(31,.bool true)]) (by kernel_rfl) (fun _ _=>by kernel_rfl) (fun _=>by kernel_rfl) (fun _=>by kernel_rfl) (fun p4=>?_) (fun p4 W4 T hF hK=>?_)
 ·refine ok_v (by kernel_rfl) ?_
  refine ok_vb (decide_eq_false (show ¬ n > 2147483648 by omega)) (by kernel_rfl) ?_
  iterate 2 refine ok_v (by kernel_rfl) ?_
  refine ok_vb (decide_eq_false (show ¬ n < -2147483648 by omega)) (by kernel_rfl) ?_
  iterate 3 refine ok_v (by kernel_rfl) ?_
  refine ok_L (by kernel_rfl) (by kernel_rfl) (by kernel_rfl) ?_
  refine ok_v (by kernel_rfl) ?_
  refine ok_vi ((wr64 (x:=x+n) (by omega) (by omega)).trans hy) (by kernel_rfl) ?_
  refine ok_c (fun W cx=>as_v (unhide HF _)) (by kernel_rfl) ?_
  refine ok_v (by kernel_rfl) ?_
  exact ok_nil
 replace hS:=SymF.fb hS hF [0,1] [⟨(p1 0).N,#[.bool g,.string s,.int .i64 x],23,true⟩,⟨(p1 1).N,#[.bool false,.string ⟨#[]⟩,.int .i64 0],23,true⟩] (by kernel_rfl) (by kernel_rfl)
 replace hG:=hF.gx
 clear hF
 have z4:=hS.fr.size
 refine wp_cond_true (hK.ev 31 (by kernel_rfl) _ (by kernel_rfl)) ?_
 refine wp_symQ hS hG hK (fun p5=>[.v 32 (.agg #[.bool false,.string ⟨#[]⟩,.int .i64 0]),.p 1 0 [.bool false,.string ⟨#[]⟩,.int .i64 0],.v 5 (.int .i64 4)]) (fun p5=>[(1,.int .i64 n),(2,.pointer (some ⟨(p1 0).N,0,none⟩)),(4,.pointer (some ⟨(p1 1).N,0,none⟩)),(5,.int .i64 4),(6,.int .i64 0),(14,.bool false),(31,.bool true)]) (by kernel_rfl) (fun _ _=>by kernel_rfl) (fun _=>by kernel_rfl) (fun _=>by kernel_rfl) (fun p5=>?_) (fun p5 W5 T hF hK=>?_)
 ·refine ok_v (by kernel_rfl) ?_
  refine ok_P (by kernel_rfl) (by kernel_rfl) (by kernel_rfl) ?_
  refine ok_v (by kernel_rfl) ?_
  exact ok_nil
 replace hS:=SymF.fb hS hF [0,1] [⟨(p1 0).N,#[.bool g,.string s,.int .i64 x],23,true⟩,⟨(p1 1).N,#[.bool false,.string ⟨#[]⟩,.int .i64 0],23,true⟩] (by kernel_rfl) (by kernel_rfl)
 replace hG:=hF.gx
 clear hF
 have z5:=hS.fr.size
 refine wp_ret ?_
 refine then_r ?_
 exact sym_end hS hK (.tuple #[.agg #[.bool false,.string ⟨#[]⟩,.int .i64 0],.int .i64 4]) [(1,0,3)] [.bool false,.string ⟨#[]⟩,.int .i64 0] (by kernel_rfl) (by kernel_rfl) ⟨rfl,hS.fr⟩
theorem rsh_ok (w:World) (g:Bool) (s:ByteArray) (x:Int) (n:Int) (y:Int) (hx0:-1073741824≤x) (hx1:x≤1073741824) (hn0:-2147483648≤n) (hn1:n≤2147483648) (hy:x+n = y) (hz:s.size≠0) (HC:Hid (∀ W:World,Calls Tryd.prog 14 #[.agg #[.bool g,.string s,.int .i64 x]] W fun e W'=>e = .returned (.int .i64 0)∧Below W.heap.size W W')) (HF:Hid (∀ W:World,Calls Tryd.prog 23 #[.int .i64 y] W fun e W'=>e = .returned (.bool false)∧Below W.heap.size W W')) :
  Calls Tryd.prog 10 #[.agg #[.bool g,.string s,.int .i64 x],.int .i64 n] w fun en w'=>en = .returned (.tuple #[.agg #[.bool g,.string s,.int .i64 y],.int .i64 0])∧Below w.heap.size w w':=by
 refine calls_sym Tryd.func10 rfl (by kernel_rfl) fun T hK=>?_
 replace hK:Kn T _ [(0,.agg #[.bool g,.string s,.int .i64 x]),(1,.int .i64 n)]:=hK
 have hS:=Fb.begin w
 have hG:GsAt [] w:=trivial
 refine wp_symQ hS hG hK (fun p1=>[.n 2 #[.bool g,.string s,.int .i64 x] 23,.n 4 #[.bool false,.string ⟨#[]⟩,.int .i64 0] 23,.v 5 (.int .i64 0)]) (fun p1=>[(1,.int .i64 n),(2,.pointer (some ⟨(p1 0).N,0,none⟩)),(4,.pointer (some ⟨(p1 1).N,0,none⟩)),(5,.int .i64 0)]) (by kernel_rfl) (fun _ _=>by kernel_rfl) (fun _=>by kernel_rfl) (fun _=>by kernel_rfl) (fun p1=>?_) (fun p1 W1 T hF hK=>?_)
 ·iterate 2 refine ok_n (fun _=>by kernel_rfl) ?_
  refine ok_v (by kernel_rfl) ?_
  exact ok_nil
 replace hS:=SymF.fb hS hF [1000,1001] [⟨(p1 0).N,#[.bool g,.string s,.int .i64 x],23,true⟩,⟨(p1 1).N,#[.bool false,.string ⟨#[]⟩,.int .i64 0],23,true⟩] (by kernel_rfl) (by kernel_rfl)
 replace hG:=hF.gx
 clear hF
 have z1:=hS.fr.size
 refine wp_symQ hS hG hK (fun p2=>[.l 7 (.agg #[.bool g,.string s,.int .i64 x]) 0 0,.c (some 8) (cV (.int .i64 0)),.v 6 (.int .i64 0)]) (fun p2=>[(1,.int .i64 n),(2,.pointer (some ⟨(p1 0).N,0,none⟩)),(4,.pointer (some ⟨(p1 1).N,0,none⟩)),(5,.int .i64 0),(6,.int .i64 0)]) (by kernel_rfl) (fun _ _=>by kernel_rfl) (fun _=>by kernel_rfl) (fun _=>by kernel_rfl) (fun p2=>?_) (fun p2 W2 T hF hK=>?_)
 ·refine ok_L (by kernel_rfl) (by kernel_rfl) (by kernel_rfl) ?_
  refine ok_c (fun W cx=>as_v (unhide HC _)) (by kernel_rfl) ?_
  refine ok_v (by kernel_rfl) ?_
  exact ok_nil
 replace hS:=SymF.fb hS hF [0,1] [⟨(p1 0).N,#[.bool g,.string s,.int .i64 x],23,true⟩,⟨(p1 1).N,#[.bool false,.string ⟨#[]⟩,.int .i64 0],23,true⟩] (by kernel_rfl) (by kernel_rfl)
 replace hG:=hF.gx
 clear hF
 have z2:=hS.fr.size
 refine wp_seq ?_
 refine wp_symQ hS hG hK (fun p3=>[.v 9 (.int .i64 0),.v 10 (.bool false),.v 11 (.bool false),.l 12 (.agg #[.bool g,.string s,.int .i64 x]) 0 0,.c (some 13) (cV (.bool false)),.v 14 (.bool false)]) (fun p3=>[(1,.int .i64 n),(2,.pointer (some ⟨(p1 0).N,0,none⟩)),(4,.pointer (some ⟨(p1 1).N,0,none⟩)),(5,.int .i64 0),(6,.int .i64 0),(14,.bool false)]) (by kernel_rfl) (fun _ _=>by kernel_rfl) (fun _=>by kernel_rfl) (fun _=>by kernel_rfl) (fun p3=>?_) (fun p3 W3 T hF hK=>?_)
 ·iterate 3 refine ok_v (by kernel_rfl) ?_
  refine ok_L (by kernel_rfl) (by kernel_rfl) (by kernel_rfl) ?_
  refine ok_c (fun W cx=>as_v (rnone_f _ g s x hz)) (by kernel_rfl) ?_
  refine ok_v (by kernel_rfl) ?_
  exact ok_nil
 replace hS:=SymF.fb hS hF [0,1] [⟨(p1 0).N,#[.bool g,.string s,.int .i64 x],23,true⟩,⟨(p1 1).N,#[.bool false,.string ⟨#[]⟩,.int .i64 0],23,true⟩] (by kernel_rfl) (by kernel_rfl)
 replace hG:=hF.gx
 clear hF
 have z3:=hS.fr.size
 refine wp_cond_false (hK.ev 14 (by kernel_rfl) _ (by kernel_rfl)) ?_
 refine wp_skip ?_
 refine then_n ?_
 refine wp_seq ?_
 refine wp_symQ hS hG hK (fun p4=>[.v 19 (.int .i64 n),.v 20 (.bool false),.v 21 (.bool false),.v 22 (.int .i64 n),.v 23 (.bool false),.v 24 (.bool false),.v 25 (.bool false),.v 26 (.pointer (some ⟨(p1 0).N,2,none⟩)),.l 27 (.int .i64 x) 0 2,.v 28 (.int .i64 n),.v 29 (.int .i64 y),.c (some 30) (cV (.bool false)),.v 31 (.bool false)]) (fun p4=>[(1,.int .i64 n),(2,.pointer (some ⟨(p1 0).N,0,none⟩)),(4,.pointer (some ⟨(p1 1).N,0,none⟩)),(5,.int .i64 0),(6,.int .i64 0),(14,.bool false),(31,.bool false)]) (by kernel_rfl) (fun _ _=>by kernel_rfl) (fun _=>by kernel_rfl) (fun _=>by kernel_rfl) (fun p4=>?_) (fun p4 W4 T hF hK=>?_)
 ·refine ok_v (by kernel_rfl) ?_
  refine ok_vb (decide_eq_false (show ¬ n > 2147483648 by omega)) (by kernel_rfl) ?_
  iterate 2 refine ok_v (by kernel_rfl) ?_
  refine ok_vb (decide_eq_false (show ¬ n < -2147483648 by omega)) (by kernel_rfl) ?_
  iterate 3 refine ok_v (by kernel_rfl) ?_
  refine ok_L (by kernel_rfl) (by kernel_rfl) (by kernel_rfl) ?_
  refine ok_v (by kernel_rfl) ?_
  refine ok_vi ((wr64 (x:=x+n) (by omega) (by omega)).trans hy) (by kernel_rfl) ?_
  refine ok_c (fun W cx=>as_v (unhide HF _)) (by kernel_rfl) ?_
  refine ok_v (by kernel_rfl) ?_
  exact ok_nil
 replace hS:=SymF.fb hS hF [0,1] [⟨(p1 0).N,#[.bool g,.string s,.int .i64 x],23,true⟩,⟨(p1 1).N,#[.bool false,.string ⟨#[]⟩,.int .i64 0],23,true⟩] (by kernel_rfl) (by kernel_rfl)
 replace hG:=hF.gx
 clear hF
 have z4:=hS.fr.size
 refine wp_cond_false (hK.ev 31 (by kernel_rfl) _ (by kernel_rfl)) ?_
 refine wp_skip ?_
 refine then_n ?_
 refine wp_symQ hS hG hK (fun p5=>[.v 33 (.pointer (some ⟨(p1 0).N,2,none⟩)),.l 34 (.int .i64 x) 0 2,.v 35 (.int .i64 n),.v 36 (.int .i64 y),.v 37 (.pointer (some ⟨(p1 0).N,2,none⟩)),.p 0 2 [.int .i64 y]]) (fun p5=>[(2,.pointer (some ⟨(p1 0).N,0,none⟩)),(4,.pointer (some ⟨(p1 1).N,0,none⟩)),(5,.int .i64 0),(6,.int .i64 0),(14,.bool false),(31,.bool false)]) (by kernel_rfl) (fun _ _=>by kernel_rfl) (fun _=>by kernel_rfl) (fun _=>by kernel_rfl) (fun p5=>?_) (fun p5 W5 T hF hK=>?_)
 ·refine ok_v (by kernel_rfl) ?_
  refine ok_L (by kernel_rfl) (by kernel_rfl) (by kernel_rfl) ?_
  refine ok_v (by kernel_rfl) ?_
  refine ok_vi ((wr64 (x:=x+n) (by omega) (by omega)).trans hy) (by kernel_rfl) ?_
  refine ok_v (by kernel_rfl) ?_
  refine ok_P (by kernel_rfl) (by kernel_rfl) (by kernel_rfl) ?_
  exact ok_nil
 replace hS:=SymF.fb hS hF [0,1] [⟨(p1 0).N,#[.bool g,.string s,.int .i64 y],23,true⟩,⟨(p1 1).N,#[.bool false,.string ⟨#[]⟩,.int .i64 0],23,true⟩] (by kernel_rfl) (by kernel_rfl)
 replace hG:=hF.gx
 clear hF
 have z5:=hS.fr.size
 refine wp_symQ hS hG hK (fun p6=>[.l 38 (.agg #[.bool g,.string s,.int .i64 y]) 0 0,.p 1 0 [.bool g,.string s,.int .i64 y],.v 5 (.int .i64 0)]) (fun p6=>[(2,.pointer (some ⟨(p1 0).N,0,none⟩)),(4,.pointer (some ⟨(p1 1).N,0,none⟩)),(5,.int .i64 0),(6,.int .i64 0),(14,.bool false),(31,.bool false)]) (by kernel_rfl) (fun _ _=>by kernel_rfl) (fun _=>by kernel_rfl) (fun _=>by kernel_rfl) (fun p6=>?_) (fun p6 W6 T hF hK=>?_)
 ·refine ok_L (by kernel_rfl) (by kernel_rfl) (by kernel_rfl) ?_
  refine ok_P (by kernel_rfl) (by kernel_rfl) (by kernel_rfl) ?_
  refine ok_v (by kernel_rfl) ?_
  exact ok_nil
 replace hS:=SymF.fb hS hF [0,1] [⟨(p1 0).N,#[.bool g,.string s,.int .i64 y],23,true⟩,⟨(p1 1).N,#[.bool g,.string s,.int .i64 y],23,true⟩] (by kernel_rfl) (by kernel_rfl)
 replace hG:=hF.gx
 clear hF
 have z6:=hS.fr.size
 refine wp_ret ?_
 exact sym_end hS hK (.tuple #[.agg #[.bool g,.string s,.int .i64 y],.int .i64 0]) [(1,0,3)] [.bool g,.string s,.int .i64 y] (by kernel_rfl) (by kernel_rfl) ⟨rfl,hS.fr⟩
theorem rpl_e (w:World) (g:Bool) (s:ByteArray) (x:Int) (e1:Int) (he:e1≠0) (HC:Hid (∀ W:World,Calls Tryd.prog 14 #[.agg #[.bool g,.string s,.int .i64 x]] W fun e W'=>e = .returned (.int .i64 e1)∧Below W.heap.size W W')) :
  Calls Tryd.prog 5 #[.agg #[.bool g,.string s,.int .i64 x]] w fun en w'=>en = .returned (.tuple #[.string ⟨#[]⟩,.int .i64 e1])∧Below w.heap.size w w':=by
 refine calls_sym Tryd.func5 rfl (by kernel_rfl) fun T hK=>?_
 replace hK:Kn T _ [(0,.agg #[.bool g,.string s,.int .i64 x])]:=hK
 have hS:=Fb.begin w
 have hG:GsAt [] w:=trivial
 refine wp_symQ hS hG hK (fun p1=>[.n 1 #[.bool g,.string s,.int .i64 x] 23,.v 2 (.string { data:=#[] }),.v 3 (.int .i64 0)]) (fun p1=>[(1,.pointer (some ⟨(p1 0).N,0,none⟩)),(2,.string { data:=#[] }),(3,.int .i64 0)]) (by kernel_rfl) (fun _ _=>by kernel_rfl) (fun _=>by kernel_rfl) (fun _=>by kernel_rfl) (fun p1=>?_) (fun p1 W1 T hF hK=>?_)
 ·refine ok_n (fun _=>by kernel_rfl) ?_
  iterate 2 refine ok_v (by kernel_rfl) ?_
  exact ok_nil
 replace hS:=SymF.fb hS hF [1000] [⟨(p1 0).N,#[.bool g,.string s,.int .i64 x],23,true⟩] (by kernel_rfl) (by kernel_rfl)
 replace hG:=hF.gx
 clear hF
 have z1:=hS.fr.size
 refine wp_symQ hS hG hK (fun p2=>[.l 6 (.agg #[.bool g,.string s,.int .i64 x]) 0 0,.c (some 7) (cV (.int .i64 e1)),.v 4 (.int .i64 e1)]) (fun p2=>[(1,.pointer (some ⟨(p1 0).N,0,none⟩)),(2,.string { data:=#[] }),(3,.int .i64 0),(4,.int .i64 e1)]) (by kernel_rfl) (fun _ _=>by kernel_rfl) (fun _=>by kernel_rfl) (fun _=>by kernel_rfl) (fun p2=>?_) (fun p2 W2 T hF hK=>?_)
 ·refine ok_L (by kernel_rfl) (by kernel_rfl) (by kernel_rfl) ?_
  refine ok_c (fun W cx=>as_v (unhide HC _)) (by kernel_rfl) ?_
  refine ok_v (by kernel_rfl) ?_
  exact ok_nil
 replace hS:=SymF.fb hS hF [0] [⟨(p1 0).N,#[.bool g,.string s,.int .i64 x],23,true⟩] (by kernel_rfl) (by kernel_rfl)
 replace hG:=hF.gx
 clear hF
 have z2:=hS.fr.size
 refine wp_seq ?_
 refine wp_symQ hS hG hK (fun p3=>[.v 8 (.int .i64 e1),.v 9 (.bool true)]) (fun p3=>[(1,.pointer (some ⟨(p1 0).N,0,none⟩)),(2,.string { data:=#[] }),(3,.int .i64 0),(4,.int .i64 e1),(9,.bool true)]) (by kernel_rfl) (fun _ _=>by kernel_rfl) (fun _=>by kernel_rfl) (fun _=>by kernel_rfl) (fun p3=>?_) (fun p3 W3 T hF hK=>?_)
 ·refine ok_v (by kernel_rfl) ?_
  refine ok_vb (bne_iff_ne.2 he) (by kernel_rfl) ?_
  exact ok_nil
 replace hS:=SymF.fb hS hF [0] [⟨(p1 0).N,#[.bool g,.string s,.int .i64 x],23,true⟩] (by kernel_rfl) (by kernel_rfl)
 replace hG:=hF.gx
 clear hF
 have z3:=hS.fr.size
 refine wp_cond_true (hK.ev 9 (by kernel_rfl) _ (by kernel_rfl)) ?_
 refine wp_symQ hS hG hK (fun p4=>[.v 10 (.int .i64 e1),.v 2 (.string { data:=#[] }),.v 3 (.int .i64 e1)]) (fun p4=>[(1,.pointer (some ⟨(p1 0).N,0,none⟩)),(2,.string { data:=#[] }),(3,.int .i64 e1),(9,.bool true)]) (by kernel_rfl) (fun _ _=>by kernel_rfl) (fun _=>by kernel_rfl) (fun _=>by kernel_rfl) (fun p4=>?_) (fun p4 W4 T hF hK=>?_)
 ·iterate 3 refine ok_v (by kernel_rfl) ?_
  exact ok_nil
 replace hS:=SymF.fb hS hF [0] [⟨(p1 0).N,#[.bool g,.string s,.int .i64 x],23,true⟩] (by kernel_rfl) (by kernel_rfl)
 replace hG:=hF.gx
 clear hF
 have z4:=hS.fr.size
 refine wp_ret ?_
 refine then_r ?_
 exact sym_end hS hK (.tuple #[.string ⟨#[]⟩,.int .i64 e1]) [] [] (by kernel_rfl) (by kernel_rfl) ⟨rfl,hS.fr⟩
theorem rpl_z (w:World) (g:Bool) (s:ByteArray) (x:Int) (sg t:ByteArray) (hsg:sg.size≤1) (q1c:sg ++ (⟨#[48]⟩:ByteArray) = t) (hz:s.size = 0) (HC:Hid (∀ W:World,Calls Tryd.prog 14 #[.agg #[.bool g,.string s,.int .i64 x]] W fun e W'=>e = .returned (.int .i64 0)∧Below W.heap.size W W')) (HN:Hid (∀ W:World,Calls Tryd.prog 16 #[.bool g] W fun e W'=>e = .returned (.string sg)∧Below W.heap.size W W'))  :
  Calls Tryd.prog 5 #[.agg #[.bool g,.string s,.int .i64 x]] w fun en w'=>en = .returned (.tuple #[.string t,.int .i64 0])∧Below w.heap.size w w':=by
 have e48:(⟨#[48]⟩:ByteArray).size = 1:=rfl
 have q1:script Tryd.prog 0 (Op.stringOp .add sg ⟨#[48]⟩) [] = some (.string t,[]):=by rw [← q1c]; exact script_cat (by omega)
 refine calls_sym Tryd.func5 rfl (by kernel_rfl) fun T hK=>?_
 replace hK:Kn T _ [(0,.agg #[.bool g,.string s,.int .i64 x])]:=hK
 have hS:=Fb.begin w
 have hG:GsAt [] w:=trivial
 refine wp_symQ hS hG hK (fun p1=>[.n 1 #[.bool g,.string s,.int .i64 x] 23,.v 2 (.string { data:=#[] }),.v 3 (.int .i64 0)]) (fun p1=>[(1,.pointer (some ⟨(p1 0).N,0,none⟩)),(2,.string { data:=#[] }),(3,.int .i64 0)]) (by kernel_rfl) (fun _ _=>by kernel_rfl) (fun _=>by kernel_rfl) (fun _=>by kernel_rfl) (fun p1=>?_) (fun p1 W1 T hF hK=>?_)
 ·refine ok_n (fun _=>by kernel_rfl) ?_
  iterate 2 refine ok_v (by kernel_rfl) ?_
  exact ok_nil
 replace hS:=SymF.fb hS hF [1000] [⟨(p1 0).N,#[.bool g,.string s,.int .i64 x],23,true⟩] (by kernel_rfl) (by kernel_rfl)
 replace hG:=hF.gx
 clear hF
 have z1:=hS.fr.size
 refine wp_symQ hS hG hK (fun p2=>[.l 6 (.agg #[.bool g,.string s,.int .i64 x]) 0 0,.c (some 7) (cV (.int .i64 0)),.v 4 (.int .i64 0)]) (fun p2=>[(1,.pointer (some ⟨(p1 0).N,0,none⟩)),(2,.string { data:=#[] }),(3,.int .i64 0),(4,.int .i64 0)]) (by kernel_rfl) (fun _ _=>by kernel_rfl) (fun _=>by kernel_rfl) (fun _=>by kernel_rfl) (fun p2=>?_) (fun p2 W2 T hF hK=>?_)
 ·refine ok_L (by kernel_rfl) (by kernel_rfl) (by kernel_rfl) ?_
  refine ok_c (fun W cx=>as_v (unhide HC _)) (by kernel_rfl) ?_
  refine ok_v (by kernel_rfl) ?_
  exact ok_nil
 replace hS:=SymF.fb hS hF [0] [⟨(p1 0).N,#[.bool g,.string s,.int .i64 x],23,true⟩] (by kernel_rfl) (by kernel_rfl)
 replace hG:=hF.gx
 clear hF
 have z2:=hS.fr.size
 refine wp_seq ?_
 refine wp_symQ hS hG hK (fun p3=>[.v 8 (.int .i64 0),.v 9 (.bool false)]) (fun p3=>[(1,.pointer (some ⟨(p1 0).N,0,none⟩)),(2,.string { data:=#[] }),(3,.int .i64 0),(4,.int .i64 0),(9,.bool false)]) (by kernel_rfl) (fun _ _=>by kernel_rfl) (fun _=>by kernel_rfl) (fun _=>by kernel_rfl) (fun p3=>?_) (fun p3 W3 T hF hK=>?_)
 ·iterate 2 refine ok_v (by kernel_rfl) ?_
  exact ok_nil
 replace hS:=SymF.fb hS hF [0] [⟨(p1 0).N,#[.bool g,.string s,.int .i64 x],23,true⟩] (by kernel_rfl) (by kernel_rfl)
 replace hG:=hF.gx
 clear hF
 have z3:=hS.fr.size
 refine wp_cond_false (hK.ev 9 (by kernel_rfl) _ (by kernel_rfl)) ?_
 refine wp_skip ?_
 refine then_n ?_
 refine wp_seq ?_
 refine wp_symQ hS hG hK (fun p4=>[.l 11 (.agg #[.bool g,.string s,.int .i64 x]) 0 0,.c (some 12) (cV (.bool true))]) (fun p4=>[(1,.pointer (some ⟨(p1 0).N,0,none⟩)),(2,.string { data:=#[] }),(3,.int .i64 0),(4,.int .i64 0),(9,.bool false),(12,.bool true)]) (by kernel_rfl) (fun _ _=>by kernel_rfl) (fun _=>by kernel_rfl) (fun _=>by kernel_rfl) (fun p4=>?_) (fun p4 W4 T hF hK=>?_)
 ·refine ok_L (by kernel_rfl) (by kernel_rfl) (by kernel_rfl) ?_
  refine ok_c (fun W cx=>as_v (rnone_t _ g s x hz)) (by kernel_rfl) ?_
  exact ok_nil
 replace hS:=SymF.fb hS hF [0] [⟨(p1 0).N,#[.bool g,.string s,.int .i64 x],23,true⟩] (by kernel_rfl) (by kernel_rfl)
 replace hG:=hF.gx
 clear hF
 have z4:=hS.fr.size
 refine wp_cond_true (hK.ev 12 (by kernel_rfl) _ (by kernel_rfl)) ?_
 refine wp_symQ hS hG hK (fun p5=>[.v 13 (.pointer (some ⟨(p1 0).N,0,none⟩)),.l 14 (.bool g) 0 0,.c (some 15) (cV (.string sg)),.v 16 (.string t),.v 2 (.string t),.v 3 (.int .i64 0)]) (fun p5=>[(1,.pointer (some ⟨(p1 0).N,0,none⟩)),(2,.string t),(3,.int .i64 0),(4,.int .i64 0),(9,.bool false),(12,.bool true)]) (by kernel_rfl) (fun _ _=>by kernel_rfl) (fun _=>by kernel_rfl) (fun _=>by kernel_rfl) (fun p5=>?_) (fun p5 W5 T hF hK=>?_)
 ·refine ok_v (by kernel_rfl) ?_
  refine ok_L (by kernel_rfl) (by kernel_rfl) (by kernel_rfl) ?_
  refine ok_c (fun W cx=>as_v (unhide HN _)) (by kernel_rfl) ?_
  refine ok_vr (q1) (by kernel_rfl) ?_
  iterate 2 refine ok_v (by kernel_rfl) ?_
  exact ok_nil
 replace hS:=SymF.fb hS hF [0] [⟨(p1 0).N,#[.bool g,.string s,.int .i64 x],23,true⟩] (by kernel_rfl) (by kernel_rfl)
 replace hG:=hF.gx
 clear hF
 have z5:=hS.fr.size
 refine wp_ret ?_
 refine then_r ?_
 exact sym_end hS hK (.tuple #[.string t,.int .i64 0]) [] [] (by kernel_rfl) (by kernel_rfl) ⟨rfl,hS.fr⟩
theorem rpl_far1 (w:World) (g:Bool) (s:ByteArray) (x:Int) (hx:65536 < x) (hz:s.size≠0) (HC:Hid (∀ W:World,Calls Tryd.prog 14 #[.agg #[.bool g,.string s,.int .i64 x]] W fun e W'=>e = .returned (.int .i64 0)∧Below W.heap.size W W')) :
  Calls Tryd.prog 5 #[.agg #[.bool g,.string s,.int .i64 x]] w fun en w'=>en = .returned (.tuple #[.string ⟨#[]⟩,.int .i64 4])∧Below w.heap.size w w':=by
 refine calls_sym Tryd.func5 rfl (by kernel_rfl) fun T hK=>?_
 replace hK:Kn T _ [(0,.agg #[.bool g,.string s,.int .i64 x])]:=hK
 have hS:=Fb.begin w
 have hG:GsAt [] w:=trivial
 refine wp_symQ hS hG hK (fun p1=>[.n 1 #[.bool g,.string s,.int .i64 x] 23,.v 2 (.string { data:=#[] }),.v 3 (.int .i64 0)]) (fun p1=>[(1,.pointer (some ⟨(p1 0).N,0,none⟩)),(2,.string { data:=#[] }),(3,.int .i64 0)]) (by kernel_rfl) (fun _ _=>by kernel_rfl) (fun _=>by kernel_rfl) (fun _=>by kernel_rfl) (fun p1=>?_) (fun p1 W1 T hF hK=>?_)
 ·refine ok_n (fun _=>by kernel_rfl) ?_
  iterate 2 refine ok_v (by kernel_rfl) ?_
  exact ok_nil
 replace hS:=SymF.fb hS hF [1000] [⟨(p1 0).N,#[.bool g,.string s,.int .i64 x],23,true⟩] (by kernel_rfl) (by kernel_rfl)
 replace hG:=hF.gx
 clear hF
 have z1:=hS.fr.size
 refine wp_symQ hS hG hK (fun p2=>[.l 6 (.agg #[.bool g,.string s,.int .i64 x]) 0 0,.c (some 7) (cV (.int .i64 0)),.v 4 (.int .i64 0)]) (fun p2=>[(1,.pointer (some ⟨(p1 0).N,0,none⟩)),(2,.string { data:=#[] }),(3,.int .i64 0),(4,.int .i64 0)]) (by kernel_rfl) (fun _ _=>by kernel_rfl) (fun _=>by kernel_rfl) (fun _=>by kernel_rfl) (fun p2=>?_) (fun p2 W2 T hF hK=>?_)
 ·refine ok_L (by kernel_rfl) (by kernel_rfl) (by kernel_rfl) ?_
  refine ok_c (fun W cx=>as_v (unhide HC _)) (by kernel_rfl) ?_
  refine ok_v (by kernel_rfl) ?_
  exact ok_nil
 replace hS:=SymF.fb hS hF [0] [⟨(p1 0).N,#[.bool g,.string s,.int .i64 x],23,true⟩] (by kernel_rfl) (by kernel_rfl)
 replace hG:=hF.gx
 clear hF
 have z2:=hS.fr.size
 refine wp_seq ?_
 refine wp_symQ hS hG hK (fun p3=>[.v 8 (.int .i64 0),.v 9 (.bool false)]) (fun p3=>[(1,.pointer (some ⟨(p1 0).N,0,none⟩)),(2,.string { data:=#[] }),(3,.int .i64 0),(4,.int .i64 0),(9,.bool false)]) (by kernel_rfl) (fun _ _=>by kernel_rfl) (fun _=>by kernel_rfl) (fun _=>by kernel_rfl) (fun p3=>?_) (fun p3 W3 T hF hK=>?_)
 ·iterate 2 refine ok_v (by kernel_rfl) ?_
  exact ok_nil
 replace hS:=SymF.fb hS hF [0] [⟨(p1 0).N,#[.bool g,.string s,.int .i64 x],23,true⟩] (by kernel_rfl) (by kernel_rfl)
 replace hG:=hF.gx
 clear hF
 have z3:=hS.fr.size
 refine wp_cond_false (hK.ev 9 (by kernel_rfl) _ (by kernel_rfl)) ?_
 refine wp_skip ?_
 refine then_n ?_
 refine wp_seq ?_
 refine wp_symQ hS hG hK (fun p4=>[.l 11 (.agg #[.bool g,.string s,.int .i64 x]) 0 0,.c (some 12) (cV (.bool false))]) (fun p4=>[(1,.pointer (some ⟨(p1 0).N,0,none⟩)),(2,.string { data:=#[] }),(3,.int .i64 0),(4,.int .i64 0),(9,.bool false),(12,.bool false)]) (by kernel_rfl) (fun _ _=>by kernel_rfl) (fun _=>by kernel_rfl) (fun _=>by kernel_rfl) (fun p4=>?_) (fun p4 W4 T hF hK=>?_)
 ·refine ok_L (by kernel_rfl) (by kernel_rfl) (by kernel_rfl) ?_
  refine ok_c (fun W cx=>as_v (rnone_f _ g s x hz)) (by kernel_rfl) ?_
  exact ok_nil
 replace hS:=SymF.fb hS hF [0] [⟨(p1 0).N,#[.bool g,.string s,.int .i64 x],23,true⟩] (by kernel_rfl) (by kernel_rfl)
 replace hG:=hF.gx
 clear hF
 have z4:=hS.fr.size
 refine wp_cond_false (hK.ev 12 (by kernel_rfl) _ (by kernel_rfl)) ?_
 refine wp_skip ?_
 refine then_n ?_
 refine wp_seq ?_
 refine wp_symQ hS hG hK (fun p5=>[.v 17 (.pointer (some ⟨(p1 0).N,2,none⟩)),.l 18 (.int .i64 x) 0 2,.v 19 (.bool true),.v 20 (.bool true),.k (some 21),.k (some 22),.k (some 23),.v 24 (.bool true)]) (fun p5=>[(1,.pointer (some ⟨(p1 0).N,0,none⟩)),(2,.string { data:=#[] }),(3,.int .i64 0),(4,.int .i64 0),(9,.bool false),(12,.bool false),(24,.bool true)]) (by kernel_rfl) (fun _ _=>by kernel_rfl) (fun _=>by kernel_rfl) (fun _=>by kernel_rfl) (fun p5=>?_) (fun p5 W5 T hF hK=>?_)
 ·refine ok_v (by kernel_rfl) ?_
  refine ok_L (by kernel_rfl) (by kernel_rfl) (by kernel_rfl) ?_
  refine ok_vb (decide_eq_true (show x > 65536 by omega)) (by kernel_rfl) ?_
  refine ok_v (by kernel_rfl) ?_
  iterate 3 refine ok_K (by kernel_rfl) ?_
  refine ok_v (by kernel_rfl) ?_
  exact ok_nil
 replace hS:=SymF.fb hS hF [0] [⟨(p1 0).N,#[.bool g,.string s,.int .i64 x],23,true⟩] (by kernel_rfl) (by kernel_rfl)
 replace hG:=hF.gx
 clear hF
 have z5:=hS.fr.size
 refine wp_cond_true (hK.ev 24 (by kernel_rfl) _ (by kernel_rfl)) ?_
 refine wp_symQ hS hG hK (fun p6=>[.v 2 (.string { data:=#[] }),.v 3 (.int .i64 4)]) (fun p6=>[(1,.pointer (some ⟨(p1 0).N,0,none⟩)),(2,.string { data:=#[] }),(3,.int .i64 4),(4,.int .i64 0),(9,.bool false),(12,.bool false),(24,.bool true)]) (by kernel_rfl) (fun _ _=>by kernel_rfl) (fun _=>by kernel_rfl) (fun _=>by kernel_rfl) (fun p6=>?_) (fun p6 W6 T hF hK=>?_)
 ·iterate 2 refine ok_v (by kernel_rfl) ?_
  exact ok_nil
 replace hS:=SymF.fb hS hF [0] [⟨(p1 0).N,#[.bool g,.string s,.int .i64 x],23,true⟩] (by kernel_rfl) (by kernel_rfl)
 replace hG:=hF.gx
 clear hF
 have z6:=hS.fr.size
 refine wp_ret ?_
 refine then_r ?_
 exact sym_end hS hK (.tuple #[.string ⟨#[]⟩,.int .i64 4]) [] [] (by kernel_rfl) (by kernel_rfl) ⟨rfl,hS.fr⟩
theorem rpl_far2 (w:World) (g:Bool) (s:ByteArray) (x:Int) (hx:x < -65536) (hz:s.size≠0) (HC:Hid (∀ W:World,Calls Tryd.prog 14 #[.agg #[.bool g,.string s,.int .i64 x]] W fun e W'=>e = .returned (.int .i64 0)∧Below W.heap.size W W')) :
  Calls Tryd.prog 5 #[.agg #[.bool g,.string s,.int .i64 x]] w fun en w'=>en = .returned (.tuple #[.string ⟨#[]⟩,.int .i64 4])∧Below w.heap.size w w':=by
 refine calls_sym Tryd.func5 rfl (by kernel_rfl) fun T hK=>?_
 replace hK:Kn T _ [(0,.agg #[.bool g,.string s,.int .i64 x])]:=hK
 have hS:=Fb.begin w
 have hG:GsAt [] w:=trivial
 refine wp_symQ hS hG hK (fun p1=>[.n 1 #[.bool g,.string s,.int .i64 x] 23,.v 2 (.string { data:=#[] }),.v 3 (.int .i64 0)]) (fun p1=>[(1,.pointer (some ⟨(p1 0).N,0,none⟩)),(2,.string { data:=#[] }),(3,.int .i64 0)]) (by kernel_rfl) (fun _ _=>by kernel_rfl) (fun _=>by kernel_rfl) (fun _=>by kernel_rfl) (fun p1=>?_) (fun p1 W1 T hF hK=>?_)
 ·refine ok_n (fun _=>by kernel_rfl) ?_
  iterate 2 refine ok_v (by kernel_rfl) ?_
  exact ok_nil
 replace hS:=SymF.fb hS hF [1000] [⟨(p1 0).N,#[.bool g,.string s,.int .i64 x],23,true⟩] (by kernel_rfl) (by kernel_rfl)
 replace hG:=hF.gx
 clear hF
 have z1:=hS.fr.size
 refine wp_symQ hS hG hK (fun p2=>[.l 6 (.agg #[.bool g,.string s,.int .i64 x]) 0 0,.c (some 7) (cV (.int .i64 0)),.v 4 (.int .i64 0)]) (fun p2=>[(1,.pointer (some ⟨(p1 0).N,0,none⟩)),(2,.string { data:=#[] }),(3,.int .i64 0),(4,.int .i64 0)]) (by kernel_rfl) (fun _ _=>by kernel_rfl) (fun _=>by kernel_rfl) (fun _=>by kernel_rfl) (fun p2=>?_) (fun p2 W2 T hF hK=>?_)
 ·refine ok_L (by kernel_rfl) (by kernel_rfl) (by kernel_rfl) ?_
  refine ok_c (fun W cx=>as_v (unhide HC _)) (by kernel_rfl) ?_
  refine ok_v (by kernel_rfl) ?_
  exact ok_nil
 replace hS:=SymF.fb hS hF [0] [⟨(p1 0).N,#[.bool g,.string s,.int .i64 x],23,true⟩] (by kernel_rfl) (by kernel_rfl)
 replace hG:=hF.gx
 clear hF
 have z2:=hS.fr.size
 refine wp_seq ?_
 refine wp_symQ hS hG hK (fun p3=>[.v 8 (.int .i64 0),.v 9 (.bool false)]) (fun p3=>[(1,.pointer (some ⟨(p1 0).N,0,none⟩)),(2,.string { data:=#[] }),(3,.int .i64 0),(4,.int .i64 0),(9,.bool false)]) (by kernel_rfl) (fun _ _=>by kernel_rfl) (fun _=>by kernel_rfl) (fun _=>by kernel_rfl) (fun p3=>?_) (fun p3 W3 T hF hK=>?_)
 ·iterate 2 refine ok_v (by kernel_rfl) ?_
  exact ok_nil
 replace hS:=SymF.fb hS hF [0] [⟨(p1 0).N,#[.bool g,.string s,.int .i64 x],23,true⟩] (by kernel_rfl) (by kernel_rfl)
 replace hG:=hF.gx
 clear hF
 have z3:=hS.fr.size
 refine wp_cond_false (hK.ev 9 (by kernel_rfl) _ (by kernel_rfl)) ?_
 refine wp_skip ?_
 refine then_n ?_
 refine wp_seq ?_
 refine wp_symQ hS hG hK (fun p4=>[.l 11 (.agg #[.bool g,.string s,.int .i64 x]) 0 0,.c (some 12) (cV (.bool false))]) (fun p4=>[(1,.pointer (some ⟨(p1 0).N,0,none⟩)),(2,.string { data:=#[] }),(3,.int .i64 0),(4,.int .i64 0),(9,.bool false),(12,.bool false)]) (by kernel_rfl) (fun _ _=>by kernel_rfl) (fun _=>by kernel_rfl) (fun _=>by kernel_rfl) (fun p4=>?_) (fun p4 W4 T hF hK=>?_)
 ·refine ok_L (by kernel_rfl) (by kernel_rfl) (by kernel_rfl) ?_
  refine ok_c (fun W cx=>as_v (rnone_f _ g s x hz)) (by kernel_rfl) ?_
  exact ok_nil
 replace hS:=SymF.fb hS hF [0] [⟨(p1 0).N,#[.bool g,.string s,.int .i64 x],23,true⟩] (by kernel_rfl) (by kernel_rfl)
 replace hG:=hF.gx
 clear hF
 have z4:=hS.fr.size
 refine wp_cond_false (hK.ev 12 (by kernel_rfl) _ (by kernel_rfl)) ?_
 refine wp_skip ?_
 refine then_n ?_
 refine wp_seq ?_
 refine wp_symQ hS hG hK (fun p5=>[.v 17 (.pointer (some ⟨(p1 0).N,2,none⟩)),.l 18 (.int .i64 x) 0 2,.v 19 (.bool false),.v 20 (.bool false),.v 21 (.pointer (some ⟨(p1 0).N,2,none⟩)),.l 22 (.int .i64 x) 0 2,.v 23 (.bool true),.v 24 (.bool true)]) (fun p5=>[(1,.pointer (some ⟨(p1 0).N,0,none⟩)),(2,.string { data:=#[] }),(3,.int .i64 0),(4,.int .i64 0),(9,.bool false),(12,.bool false),(24,.bool true)]) (by kernel_rfl) (fun _ _=>by kernel_rfl) (fun _=>by kernel_rfl) (fun _=>by kernel_rfl) (fun p5=>?_) (fun p5 W5 T hF hK=>?_)
 ·refine ok_v (by kernel_rfl) ?_
  refine ok_L (by kernel_rfl) (by kernel_rfl) (by kernel_rfl) ?_
  refine ok_vb (decide_eq_false (show ¬ x > 65536 by omega)) (by kernel_rfl) ?_
  iterate 2 refine ok_v (by kernel_rfl) ?_
  refine ok_L (by kernel_rfl) (by kernel_rfl) (by kernel_rfl) ?_
  refine ok_vb (decide_eq_true (show x < -65536 by omega)) (by kernel_rfl) ?_
  refine ok_v (by kernel_rfl) ?_
  exact ok_nil
 replace hS:=SymF.fb hS hF [0] [⟨(p1 0).N,#[.bool g,.string s,.int .i64 x],23,true⟩] (by kernel_rfl) (by kernel_rfl)
 replace hG:=hF.gx
 clear hF
 have z5:=hS.fr.size
 refine wp_cond_true (hK.ev 24 (by kernel_rfl) _ (by kernel_rfl)) ?_
 refine wp_symQ hS hG hK (fun p6=>[.v 2 (.string { data:=#[] }),.v 3 (.int .i64 4)]) (fun p6=>[(1,.pointer (some ⟨(p1 0).N,0,none⟩)),(2,.string { data:=#[] }),(3,.int .i64 4),(4,.int .i64 0),(9,.bool false),(12,.bool false),(24,.bool true)]) (by kernel_rfl) (fun _ _=>by kernel_rfl) (fun _=>by kernel_rfl) (fun _=>by kernel_rfl) (fun p6=>?_) (fun p6 W6 T hF hK=>?_)
 ·iterate 2 refine ok_v (by kernel_rfl) ?_
  exact ok_nil
 replace hS:=SymF.fb hS hF [0] [⟨(p1 0).N,#[.bool g,.string s,.int .i64 x],23,true⟩] (by kernel_rfl) (by kernel_rfl)
 replace hG:=hF.gx
 clear hF
 have z6:=hS.fr.size
 refine wp_ret ?_
 refine then_r ?_
 exact sym_end hS hK (.tuple #[.string ⟨#[]⟩,.int .i64 4]) [] [] (by kernel_rfl) (by kernel_rfl) ⟨rfl,hS.fr⟩
theorem rpl_pm (w:World) (g:Bool) (s:ByteArray) (x:Int) (sg u t:ByteArray) (k:Nat) (hxk:x = (k:Int)) (hk:k≤65536) (hsg:sg.size≤1) (hsm:s.size≤65536) (q1c:s ++ noS k = u) (hus:u.size≤131072) (q2c:sg ++ u = t) (ht:65536 < t.size) (hz:s.size≠0) (HC:Hid (∀ W:World,Calls Tryd.prog 14 #[.agg #[.bool g,.string s,.int .i64 x]] W fun e W'=>e = .returned (.int .i64 0)∧Below W.heap.size W W')) (HN:Hid (∀ W:World,Calls Tryd.prog 16 #[.bool g] W fun e W'=>e = .returned (.string sg)∧Below W.heap.size W W'))  :
  Calls Tryd.prog 5 #[.agg #[.bool g,.string s,.int .i64 x]] w fun en w'=>en = .returned (.tuple #[.string ⟨#[]⟩,.int .i64 4])∧Below w.heap.size w w':=by
 have HNO:∀ W:World,Calls Tryd.prog 17 #[.int .i64 x] W fun e W'=>e = .returned (.string (noS k))∧Below W.heap.size W W':=fun W=>by rw [hxk]; exact rnoughts_any k (by omega) W
 have ek:(noS k).size = k:=size_noS k
 have q1:script Tryd.prog 0 (Op.stringOp .add s (noS k)) [] = some (.string u,[]):=by rw [← q1c]; exact script_cat (by omega)
 have q2:script Tryd.prog 0 (Op.stringOp .add sg u) [] = some (.string t,[]):=by rw [← q2c]; exact script_cat (by omega)
 refine calls_sym Tryd.func5 rfl (by kernel_rfl) fun T hK=>?_
 replace hK:Kn T _ [(0,.agg #[.bool g,.string s,.int .i64 x])]:=hK
 have hS:=Fb.begin w
 have hG:GsAt [] w:=trivial
 refine wp_symQ hS hG hK (fun p1=>[.n 1 #[.bool g,.string s,.int .i64 x] 23,.v 2 (.string { data:=#[] }),.v 3 (.int .i64 0)]) (fun p1=>[(1,.pointer (some ⟨(p1 0).N,0,none⟩)),(2,.string { data:=#[] }),(3,.int .i64 0)]) (by kernel_rfl) (fun _ _=>by kernel_rfl) (fun _=>by kernel_rfl) (fun _=>by kernel_rfl) (fun p1=>?_) (fun p1 W1 T hF hK=>?_)
 ·refine ok_n (fun _=>by kernel_rfl) ?_
  iterate 2 refine ok_v (by kernel_rfl) ?_
  exact ok_nil
 replace hS:=SymF.fb hS hF [1000] [⟨(p1 0).N,#[.bool g,.string s,.int .i64 x],23,true⟩] (by kernel_rfl) (by kernel_rfl)
 replace hG:=hF.gx
 clear hF
 have z1:=hS.fr.size
 refine wp_symQ hS hG hK (fun p2=>[.l 6 (.agg #[.bool g,.string s,.int .i64 x]) 0 0,.c (some 7) (cV (.int .i64 0)),.v 4 (.int .i64 0)]) (fun p2=>[(1,.pointer (some ⟨(p1 0).N,0,none⟩)),(2,.string { data:=#[] }),(3,.int .i64 0),(4,.int .i64 0)]) (by kernel_rfl) (fun _ _=>by kernel_rfl) (fun _=>by kernel_rfl) (fun _=>by kernel_rfl) (fun p2=>?_) (fun p2 W2 T hF hK=>?_)
 ·refine ok_L (by kernel_rfl) (by kernel_rfl) (by kernel_rfl) ?_
  refine ok_c (fun W cx=>as_v (unhide HC _)) (by kernel_rfl) ?_
  refine ok_v (by kernel_rfl) ?_
  exact ok_nil
 replace hS:=SymF.fb hS hF [0] [⟨(p1 0).N,#[.bool g,.string s,.int .i64 x],23,true⟩] (by kernel_rfl) (by kernel_rfl)
 replace hG:=hF.gx
 clear hF
 have z2:=hS.fr.size
 refine wp_seq ?_
 refine wp_symQ hS hG hK (fun p3=>[.v 8 (.int .i64 0),.v 9 (.bool false)]) (fun p3=>[(1,.pointer (some ⟨(p1 0).N,0,none⟩)),(2,.string { data:=#[] }),(3,.int .i64 0),(4,.int .i64 0),(9,.bool false)]) (by kernel_rfl) (fun _ _=>by kernel_rfl) (fun _=>by kernel_rfl) (fun _=>by kernel_rfl) (fun p3=>?_) (fun p3 W3 T hF hK=>?_)
 ·iterate 2 refine ok_v (by kernel_rfl) ?_
  exact ok_nil
 replace hS:=SymF.fb hS hF [0] [⟨(p1 0).N,#[.bool g,.string s,.int .i64 x],23,true⟩] (by kernel_rfl) (by kernel_rfl)
 replace hG:=hF.gx
 clear hF
 have z3:=hS.fr.size
 refine wp_cond_false (hK.ev 9 (by kernel_rfl) _ (by kernel_rfl)) ?_
 refine wp_skip ?_
 refine then_n ?_
 refine wp_seq ?_
 refine wp_symQ hS hG hK (fun p4=>[.l 11 (.agg #[.bool g,.string s,.int .i64 x]) 0 0,.c (some 12) (cV (.bool false))]) (fun p4=>[(1,.pointer (some ⟨(p1 0).N,0,none⟩)),(2,.string { data:=#[] }),(3,.int .i64 0),(4,.int .i64 0),(9,.bool false),(12,.bool false)]) (by kernel_rfl) (fun _ _=>by kernel_rfl) (fun _=>by kernel_rfl) (fun _=>by kernel_rfl) (fun p4=>?_) (fun p4 W4 T hF hK=>?_)
 ·refine ok_L (by kernel_rfl) (by kernel_rfl) (by kernel_rfl) ?_
  refine ok_c (fun W cx=>as_v (rnone_f _ g s x hz)) (by kernel_rfl) ?_
  exact ok_nil
 replace hS:=SymF.fb hS hF [0] [⟨(p1 0).N,#[.bool g,.string s,.int .i64 x],23,true⟩] (by kernel_rfl) (by kernel_rfl)
 replace hG:=hF.gx
 clear hF
 have z4:=hS.fr.size
 refine wp_cond_false (hK.ev 12 (by kernel_rfl) _ (by kernel_rfl)) ?_
 refine wp_skip ?_
 refine then_n ?_
 refine wp_seq ?_
 refine wp_symQ hS hG hK (fun p5=>[.v 17 (.pointer (some ⟨(p1 0).N,2,none⟩)),.l 18 (.int .i64 x) 0 2,.v 19 (.bool false),.v 20 (.bool false),.v 21 (.pointer (some ⟨(p1 0).N,2,none⟩)),.l 22 (.int .i64 x) 0 2,.v 23 (.bool false),.v 24 (.bool false)]) (fun p5=>[(1,.pointer (some ⟨(p1 0).N,0,none⟩)),(2,.string { data:=#[] }),(3,.int .i64 0),(4,.int .i64 0),(9,.bool false),(12,.bool false),(24,.bool false)]) (by kernel_rfl) (fun _ _=>by kernel_rfl) (fun _=>by kernel_rfl) (fun _=>by kernel_rfl) (fun p5=>?_) (fun p5 W5 T hF hK=>?_)
 ·refine ok_v (by kernel_rfl) ?_
  refine ok_L (by kernel_rfl) (by kernel_rfl) (by kernel_rfl) ?_
  refine ok_vb (decide_eq_false (show ¬ x > 65536 by omega)) (by kernel_rfl) ?_
  iterate 2 refine ok_v (by kernel_rfl) ?_
  refine ok_L (by kernel_rfl) (by kernel_rfl) (by kernel_rfl) ?_
  refine ok_vb (decide_eq_false (show ¬ x < -65536 by omega)) (by kernel_rfl) ?_
  refine ok_v (by kernel_rfl) ?_
  exact ok_nil
 replace hS:=SymF.fb hS hF [0] [⟨(p1 0).N,#[.bool g,.string s,.int .i64 x],23,true⟩] (by kernel_rfl) (by kernel_rfl)
 replace hG:=hF.gx
 clear hF
 have z5:=hS.fr.size
 refine wp_cond_false (hK.ev 24 (by kernel_rfl) _ (by kernel_rfl)) ?_
 refine wp_skip ?_
 refine then_n ?_
 refine wp_symQ hS hG hK (fun p6=>[.v 25 (.pointer (some ⟨(p1 0).N,1,none⟩)),.l 26 (.string s) 0 1,.v 5 (.string s)]) (fun p6=>[(1,.pointer (some ⟨(p1 0).N,0,none⟩)),(2,.string { data:=#[] }),(3,.int .i64 0),(4,.int .i64 0),(5,.string s),(9,.bool false),(12,.bool false),(24,.bool false)]) (by kernel_rfl) (fun _ _=>by kernel_rfl) (fun _=>by kernel_rfl) (fun _=>by kernel_rfl) (fun p6=>?_) (fun p6 W6 T hF hK=>?_)
 ·refine ok_v (by kernel_rfl) ?_
  refine ok_L (by kernel_rfl) (by kernel_rfl) (by kernel_rfl) ?_
  refine ok_v (by kernel_rfl) ?_
  exact ok_nil
 replace hS:=SymF.fb hS hF [0] [⟨(p1 0).N,#[.bool g,.string s,.int .i64 x],23,true⟩] (by kernel_rfl) (by kernel_rfl)
 replace hG:=hF.gx
 clear hF
 have z6:=hS.fr.size
 refine wp_seq ?_
 refine wp_symQ hS hG hK (fun p7=>[.v 27 (.pointer (some ⟨(p1 0).N,2,none⟩)),.l 28 (.int .i64 x) 0 2,.v 29 (.bool true)]) (fun p7=>[(1,.pointer (some ⟨(p1 0).N,0,none⟩)),(2,.string { data:=#[] }),(3,.int .i64 0),(4,.int .i64 0),(5,.string s),(9,.bool false),(12,.bool false),(24,.bool false),(29,.bool true)]) (by kernel_rfl) (fun _ _=>by kernel_rfl) (fun _=>by kernel_rfl) (fun _=>by kernel_rfl) (fun p7=>?_) (fun p7 W7 T hF hK=>?_)
 ·refine ok_v (by kernel_rfl) ?_
  refine ok_L (by kernel_rfl) (by kernel_rfl) (by kernel_rfl) ?_
  refine ok_vb (decide_eq_true (show x ≥ 0 by omega)) (by kernel_rfl) ?_
  exact ok_nil
 replace hS:=SymF.fb hS hF [0] [⟨(p1 0).N,#[.bool g,.string s,.int .i64 x],23,true⟩] (by kernel_rfl) (by kernel_rfl)
 replace hG:=hF.gx
 clear hF
 have z7:=hS.fr.size
 refine wp_cond_true (hK.ev 29 (by kernel_rfl) _ (by kernel_rfl)) ?_
 refine wp_symG hS hG hK (fun p8=>[.v 30 (.string s),.v 31 (.pointer (some ⟨(p1 0).N,2,none⟩)),.l 32 (.int .i64 x) 0 2,.c (some 33) (cV (.string (noS k))),.v 34 (.string u),.v 5 (.string u)]) (fun p8=>[(1,.pointer (some ⟨(p1 0).N,0,none⟩)),(2,.string { data:=#[] }),(3,.int .i64 0),(4,.int .i64 0),(5,.string u),(9,.bool false),(12,.bool false),(24,.bool false),(29,.bool true)]) (by kernel_rfl) (fun _ _=>by kernel_rfl) (fun _=>by kernel_rfl) (fun _=>by kernel_rfl) (fun p8=>?_) (fun p8 W8 T hF hK=>?_)
 ·iterate 2 refine ok_v (by kernel_rfl) ?_
  refine ok_L (by kernel_rfl) (by kernel_rfl) (by kernel_rfl) ?_
  refine ok_c (fun W cx=>as_v (HNO _)) (by kernel_rfl) ?_
  refine ok_vr (q1) (by kernel_rfl) ?_
  refine ok_v (by kernel_rfl) ?_
  exact ok_nil
 replace hS:=SymF.fb hS hF [0] [⟨(p1 0).N,#[.bool g,.string s,.int .i64 x],23,true⟩] (by kernel_rfl) (by kernel_rfl)
 replace hG:=hF.gx
 clear hF
 have z8:=hS.fr.size
 refine then_n ?_
 refine wp_symQ hS hG hK (fun p9=>[.v 67 (.pointer (some ⟨(p1 0).N,0,none⟩)),.l 68 (.bool g) 0 0,.c (some 69) (cV (.string sg)),.v 70 (.string u),.v 71 (.string t),.v 5 (.string t)]) (fun p9=>[(1,.pointer (some ⟨(p1 0).N,0,none⟩)),(2,.string { data:=#[] }),(3,.int .i64 0),(4,.int .i64 0),(5,.string t),(9,.bool false),(12,.bool false),(24,.bool false),(29,.bool true)]) (by kernel_rfl) (fun _ _=>by kernel_rfl) (fun _=>by kernel_rfl) (fun _=>by kernel_rfl) (fun p9=>?_) (fun p9 W9 T hF hK=>?_)
 ·refine ok_v (by kernel_rfl) ?_
  refine ok_L (by kernel_rfl) (by kernel_rfl) (by kernel_rfl) ?_
  refine ok_c (fun W cx=>as_v (unhide HN _)) (by kernel_rfl) ?_
  refine ok_v (by kernel_rfl) ?_
  refine ok_vr (q2) (by kernel_rfl) ?_
  refine ok_v (by kernel_rfl) ?_
  exact ok_nil
 replace hS:=SymF.fb hS hF [0] [⟨(p1 0).N,#[.bool g,.string s,.int .i64 x],23,true⟩] (by kernel_rfl) (by kernel_rfl)
 replace hG:=hF.gx
 clear hF
 have z9:=hS.fr.size
 refine wp_seq ?_
 refine wp_symQ hS hG hK (fun p10=>[.v 72 (.string t),.v 73 (.int .i64 (t.size:Int)),.v 74 (.bool true)]) (fun p10=>[(1,.pointer (some ⟨(p1 0).N,0,none⟩)),(2,.string { data:=#[] }),(3,.int .i64 0),(4,.int .i64 0),(5,.string t),(9,.bool false),(12,.bool false),(24,.bool false),(29,.bool true),(74,.bool true)]) (by kernel_rfl) (fun _ _=>by kernel_rfl) (fun _=>by kernel_rfl) (fun _=>by kernel_rfl) (fun p10=>?_) (fun p10 W10 T hF hK=>?_)
 ·iterate 2 refine ok_v (by kernel_rfl) ?_
  refine ok_vb (decide_eq_true (show (t.size:Int) > 65536 by omega)) (by kernel_rfl) ?_
  exact ok_nil
 replace hS:=SymF.fb hS hF [0] [⟨(p1 0).N,#[.bool g,.string s,.int .i64 x],23,true⟩] (by kernel_rfl) (by kernel_rfl)
 replace hG:=hF.gx
 clear hF
 have z10:=hS.fr.size
 refine wp_cond_true (hK.ev 74 (by kernel_rfl) _ (by kernel_rfl)) ?_
 refine wp_symQ hS hG hK (fun p11=>[.v 2 (.string { data:=#[] }),.v 3 (.int .i64 4)]) (fun p11=>[(1,.pointer (some ⟨(p1 0).N,0,none⟩)),(2,.string { data:=#[] }),(3,.int .i64 4),(4,.int .i64 0),(5,.string t),(9,.bool false),(12,.bool false),(24,.bool false),(29,.bool true),(74,.bool true)]) (by kernel_rfl) (fun _ _=>by kernel_rfl) (fun _=>by kernel_rfl) (fun _=>by kernel_rfl) (fun p11=>?_) (fun p11 W11 T hF hK=>?_)
 ·iterate 2 refine ok_v (by kernel_rfl) ?_
  exact ok_nil
 replace hS:=SymF.fb hS hF [0] [⟨(p1 0).N,#[.bool g,.string s,.int .i64 x],23,true⟩] (by kernel_rfl) (by kernel_rfl)
 replace hG:=hF.gx
 clear hF
 have z11:=hS.fr.size
 refine wp_ret ?_
 refine then_r ?_
 exact sym_end hS hK (.tuple #[.string ⟨#[]⟩,.int .i64 4]) [] [] (by kernel_rfl) (by kernel_rfl) ⟨rfl,hS.fr⟩
theorem rpl_im (w:World) (g:Bool) (s:ByteArray) (x:Int) (sg a1 b1 c1 d1 t:ByteArray) (j m:Nat) (hxj:x = -(j:Int)) (hj0:0 < j) (hj:j≤65536) (hsg:sg.size≤1) (hsm:s.size≤65536) (hjs:j < s.size) (hm:m+j = s.size) (ha1:s.extract 0 m = a1) (ha1s:a1.size≤131072) (q1c:a1 ++ (⟨#[46]⟩:ByteArray) = b1) (hb1s:b1.size≤131073) (hc1:s.extract m s.size = c1) (hc1s:c1.size≤131072) (q2c:b1 ++ c1 = d1) (hd1s:d1.size≤262145) (q3c:sg ++ d1 = t) (ht:65536 < t.size) (hz:s.size≠0) (HC:Hid (∀ W:World,Calls Tryd.prog 14 #[.agg #[.bool g,.string s,.int .i64 x]] W fun e W'=>e = .returned (.int .i64 0)∧Below W.heap.size W W')) (HN:Hid (∀ W:World,Calls Tryd.prog 16 #[.bool g] W fun e W'=>e = .returned (.string sg)∧Below W.heap.size W W'))  :
  Calls Tryd.prog 5 #[.agg #[.bool g,.string s,.int .i64 x]] w fun en w'=>en = .returned (.tuple #[.string ⟨#[]⟩,.int .i64 4])∧Below w.heap.size w w':=by
 have e46:(⟨#[46]⟩:ByteArray).size = 1:=rfl
 have hto:script Tryd.prog 0 (Instr.sliceAt 9 (.string s) none (some (.int .i64 (m:Int))) none) [] = some (.string a1,[]):=by rw [← ha1]; exact script_to Tryd.under_str (by omega) (by omega)
 have hfr:script Tryd.prog 0 (Instr.sliceAt 9 (.string s) (some (.int .i64 (m:Int))) none none) [] = some (.string c1,[]):=by rw [← hc1]; exact script_from Tryd.under_str (by omega) (by omega)
 have q1:script Tryd.prog 0 (Op.stringOp .add a1 ⟨#[46]⟩) [] = some (.string b1,[]):=by rw [← q1c]; exact script_cat (by omega)
 have q2:script Tryd.prog 0 (Op.stringOp .add b1 c1) [] = some (.string d1,[]):=by rw [← q2c]; exact script_cat (by omega)
 have q3:script Tryd.prog 0 (Op.stringOp .add sg d1) [] = some (.string t,[]):=by rw [← q3c]; exact script_cat (by omega)
 refine calls_sym Tryd.func5 rfl (by kernel_rfl) fun T hK=>?_
 replace hK:Kn T _ [(0,.agg #[.bool g,.string s,.int .i64 x])]:=hK
 have hS:=Fb.begin w
 have hG:GsAt [] w:=trivial
 refine wp_symQ hS hG hK (fun p1=>[.n 1 #[.bool g,.string s,.int .i64 x] 23,.v 2 (.string { data:=#[] }),.v 3 (.int .i64 0)]) (fun p1=>[(1,.pointer (some ⟨(p1 0).N,0,none⟩)),(2,.string { data:=#[] }),(3,.int .i64 0)]) (by kernel_rfl) (fun _ _=>by kernel_rfl) (fun _=>by kernel_rfl) (fun _=>by kernel_rfl) (fun p1=>?_) (fun p1 W1 T hF hK=>?_)
 ·refine ok_n (fun _=>by kernel_rfl) ?_
  iterate 2 refine ok_v (by kernel_rfl) ?_
  exact ok_nil
 replace hS:=SymF.fb hS hF [1000] [⟨(p1 0).N,#[.bool g,.string s,.int .i64 x],23,true⟩] (by kernel_rfl) (by kernel_rfl)
 replace hG:=hF.gx
 clear hF
 have z1:=hS.fr.size
 refine wp_symQ hS hG hK (fun p2=>[.l 6 (.agg #[.bool g,.string s,.int .i64 x]) 0 0,.c (some 7) (cV (.int .i64 0)),.v 4 (.int .i64 0)]) (fun p2=>[(1,.pointer (some ⟨(p1 0).N,0,none⟩)),(2,.string { data:=#[] }),(3,.int .i64 0),(4,.int .i64 0)]) (by kernel_rfl) (fun _ _=>by kernel_rfl) (fun _=>by kernel_rfl) (fun _=>by kernel_rfl) (fun p2=>?_) (fun p2 W2 T hF hK=>?_)
 ·refine ok_L (by kernel_rfl) (by kernel_rfl) (by kernel_rfl) ?_
  refine ok_c (fun W cx=>as_v (unhide HC _)) (by kernel_rfl) ?_
  refine ok_v (by kernel_rfl) ?_
  exact ok_nil
 replace hS:=SymF.fb hS hF [0] [⟨(p1 0).N,#[.bool g,.string s,.int .i64 x],23,true⟩] (by kernel_rfl) (by kernel_rfl)
 replace hG:=hF.gx
 clear hF
 have z2:=hS.fr.size
 refine wp_seq ?_
 refine wp_symQ hS hG hK (fun p3=>[.v 8 (.int .i64 0),.v 9 (.bool false)]) (fun p3=>[(1,.pointer (some ⟨(p1 0).N,0,none⟩)),(2,.string { data:=#[] }),(3,.int .i64 0),(4,.int .i64 0),(9,.bool false)]) (by kernel_rfl) (fun _ _=>by kernel_rfl) (fun _=>by kernel_rfl) (fun _=>by kernel_rfl) (fun p3=>?_) (fun p3 W3 T hF hK=>?_)
 ·iterate 2 refine ok_v (by kernel_rfl) ?_
  exact ok_nil
 replace hS:=SymF.fb hS hF [0] [⟨(p1 0).N,#[.bool g,.string s,.int .i64 x],23,true⟩] (by kernel_rfl) (by kernel_rfl)
 replace hG:=hF.gx
 clear hF
 have z3:=hS.fr.size
 refine wp_cond_false (hK.ev 9 (by kernel_rfl) _ (by kernel_rfl)) ?_
 refine wp_skip ?_
 refine then_n ?_
 refine wp_seq ?_
 refine wp_symQ hS hG hK (fun p4=>[.l 11 (.agg #[.bool g,.string s,.int .i64 x]) 0 0,.c (some 12) (cV (.bool false))]) (fun p4=>[(1,.pointer (some ⟨(p1 0).N,0,none⟩)),(2,.string { data:=#[] }),(3,.int .i64 0),(4,.int .i64 0),(9,.bool false),(12,.bool false)]) (by kernel_rfl) (fun _ _=>by kernel_rfl) (fun _=>by kernel_rfl) (fun _=>by kernel_rfl) (fun p4=>?_) (fun p4 W4 T hF hK=>?_)
 ·refine ok_L (by kernel_rfl) (by kernel_rfl) (by kernel_rfl) ?_
  refine ok_c (fun W cx=>as_v (rnone_f _ g s x hz)) (by kernel_rfl) ?_
  exact ok_nil
 replace hS:=SymF.fb hS hF [0] [⟨(p1 0).N,#[.bool g,.string s,.int .i64 x],23,true⟩] (by kernel_rfl) (by kernel_rfl)
 replace hG:=hF.gx
 clear hF
 have z4:=hS.fr.size
 refine wp_cond_false (hK.ev 12 (by kernel_rfl) _ (by kernel_rfl)) ?_
 refine wp_skip ?_
 refine then_n ?_
 refine wp_seq ?_
 refine wp_symQ hS hG hK (fun p5=>[.v 17 (.pointer (some ⟨(p1 0).N,2,none⟩)),.l 18 (.int .i64 x) 0 2,.v 19 (.bool false),.v 20 (.bool false),.v 21 (.pointer (some ⟨(p1 0).N,2,none⟩)),.l 22 (.int .i64 x) 0 2,.v 23 (.bool false),.v 24 (.bool false)]) (fun p5=>[(1,.pointer (some ⟨(p1 0).N,0,none⟩)),(2,.string { data:=#[] }),(3,.int .i64 0),(4,.int .i64 0),(9,.bool false),(12,.bool false),(24,.bool false)]) (by kernel_rfl) (fun _ _=>by kernel_rfl) (fun _=>by kernel_rfl) (fun _=>by kernel_rfl) (fun p5=>?_) (fun p5 W5 T hF hK=>?_)
 ·refine ok_v (by kernel_rfl) ?_
  refine ok_L (by kernel_rfl) (by kernel_rfl) (by kernel_rfl) ?_
  refine ok_vb (decide_eq_false (show ¬ x > 65536 by omega)) (by kernel_rfl) ?_
  iterate 2 refine ok_v (by kernel_rfl) ?_
  refine ok_L (by kernel_rfl) (by kernel_rfl) (by kernel_rfl) ?_
  refine ok_vb (decide_eq_false (show ¬ x < -65536 by omega)) (by kernel_rfl) ?_
  refine ok_v (by kernel_rfl) ?_
  exact ok_nil
 replace hS:=SymF.fb hS hF [0] [⟨(p1 0).N,#[.bool g,.string s,.int .i64 x],23,true⟩] (by kernel_rfl) (by kernel_rfl)
 replace hG:=hF.gx
 clear hF
 have z5:=hS.fr.size
 refine wp_cond_false (hK.ev 24 (by kernel_rfl) _ (by kernel_rfl)) ?_
 refine wp_skip ?_
 refine then_n ?_
 refine wp_symQ hS hG hK (fun p6=>[.v 25 (.pointer (some ⟨(p1 0).N,1,none⟩)),.l 26 (.string s) 0 1,.v 5 (.string s)]) (fun p6=>[(1,.pointer (some ⟨(p1 0).N,0,none⟩)),(2,.string { data:=#[] }),(3,.int .i64 0),(4,.int .i64 0),(5,.string s),(9,.bool false),(12,.bool false),(24,.bool false)]) (by kernel_rfl) (fun _ _=>by kernel_rfl) (fun _=>by kernel_rfl) (fun _=>by kernel_rfl) (fun p6=>?_) (fun p6 W6 T hF hK=>?_)
 ·refine ok_v (by kernel_rfl) ?_
  refine ok_L (by kernel_rfl) (by kernel_rfl) (by kernel_rfl) ?_
  refine ok_v (by kernel_rfl) ?_
  exact ok_nil
 replace hS:=SymF.fb hS hF [0] [⟨(p1 0).N,#[.bool g,.string s,.int .i64 x],23,true⟩] (by kernel_rfl) (by kernel_rfl)
 replace hG:=hF.gx
 clear hF
 have z6:=hS.fr.size
 refine wp_seq ?_
 refine wp_symQ hS hG hK (fun p7=>[.v 27 (.pointer (some ⟨(p1 0).N,2,none⟩)),.l 28 (.int .i64 x) 0 2,.v 29 (.bool false)]) (fun p7=>[(1,.pointer (some ⟨(p1 0).N,0,none⟩)),(2,.string { data:=#[] }),(3,.int .i64 0),(4,.int .i64 0),(5,.string s),(9,.bool false),(12,.bool false),(24,.bool false),(29,.bool false)]) (by kernel_rfl) (fun _ _=>by kernel_rfl) (fun _=>by kernel_rfl) (fun _=>by kernel_rfl) (fun p7=>?_) (fun p7 W7 T hF hK=>?_)
 ·refine ok_v (by kernel_rfl) ?_
  refine ok_L (by kernel_rfl) (by kernel_rfl) (by kernel_rfl) ?_
  refine ok_vb (decide_eq_false (show ¬ x ≥ 0 by omega)) (by kernel_rfl) ?_
  exact ok_nil
 replace hS:=SymF.fb hS hF [0] [⟨(p1 0).N,#[.bool g,.string s,.int .i64 x],23,true⟩] (by kernel_rfl) (by kernel_rfl)
 replace hG:=hF.gx
 clear hF
 have z7:=hS.fr.size
 refine wp_cond_false (hK.ev 29 (by kernel_rfl) _ (by kernel_rfl)) ?_
 refine wp_seq ?_
 refine wp_symQ hS hG hK (fun p8=>[.v 35 (.string s),.v 36 (.int .i64 (s.size:Int)),.v 37 (.pointer (some ⟨(p1 0).N,2,none⟩)),.l 38 (.int .i64 x) 0 2,.v 39 (.int .i64 (j:Int)),.v 40 (.bool false)]) (fun p8=>[(1,.pointer (some ⟨(p1 0).N,0,none⟩)),(2,.string { data:=#[] }),(3,.int .i64 0),(4,.int .i64 0),(5,.string s),(9,.bool false),(12,.bool false),(24,.bool false),(29,.bool false),(40,.bool false)]) (by kernel_rfl) (fun _ _=>by kernel_rfl) (fun _=>by kernel_rfl) (fun _=>by kernel_rfl) (fun p8=>?_) (fun p8 W8 T hF hK=>?_)
 ·iterate 3 refine ok_v (by kernel_rfl) ?_
  refine ok_L (by kernel_rfl) (by kernel_rfl) (by kernel_rfl) ?_
  refine ok_vi ((wr64 (x:=0 - x) (by omega) (by omega)).trans (by omega)) (by kernel_rfl) ?_
  refine ok_vb (decide_eq_false (show ¬ (s.size:Int)≤(j:Int) by omega)) (by kernel_rfl) ?_
  exact ok_nil
 replace hS:=SymF.fb hS hF [0] [⟨(p1 0).N,#[.bool g,.string s,.int .i64 x],23,true⟩] (by kernel_rfl) (by kernel_rfl)
 replace hG:=hF.gx
 clear hF
 have z8:=hS.fr.size
 refine wp_cond_false (hK.ev 40 (by kernel_rfl) _ (by kernel_rfl)) ?_
 refine wp_skip ?_
 refine then_n ?_
 refine wp_symG hS hG hK (fun p9=>[.v 51 (.string s),.v 52 (.string s),.v 53 (.int .i64 (s.size:Int)),.v 54 (.pointer (some ⟨(p1 0).N,2,none⟩)),.l 55 (.int .i64 x) 0 2,.v 56 (.int .i64 (m:Int)),.v 57 (.string a1),.v 58 (.string b1),.v 59 (.string s),.v 60 (.string s),.v 61 (.int .i64 (s.size:Int)),.v 62 (.pointer (some ⟨(p1 0).N,2,none⟩)),.l 63 (.int .i64 x) 0 2,.v 64 (.int .i64 (m:Int)),.v 65 (.string c1),.v 66 (.string d1),.v 5 (.string d1)]) (fun p9=>[(1,.pointer (some ⟨(p1 0).N,0,none⟩)),(2,.string { data:=#[] }),(3,.int .i64 0),(4,.int .i64 0),(5,.string d1),(9,.bool false),(12,.bool false),(24,.bool false),(29,.bool false),(40,.bool false)]) (by kernel_rfl) (fun _ _=>by kernel_rfl) (fun _=>by kernel_rfl) (fun _=>by kernel_rfl) (fun p9=>?_) (fun p9 W9 T hF hK=>?_)
 ·iterate 4 refine ok_v (by kernel_rfl) ?_
  refine ok_L (by kernel_rfl) (by kernel_rfl) (by kernel_rfl) ?_
  refine ok_vi ((wr64 (x:=(s.size:Int)+x) (by omega) (by omega)).trans (by omega)) (by kernel_rfl) ?_
  refine ok_vr (hto) (by kernel_rfl) ?_
  refine ok_vr (q1) (by kernel_rfl) ?_
  iterate 4 refine ok_v (by kernel_rfl) ?_
  refine ok_L (by kernel_rfl) (by kernel_rfl) (by kernel_rfl) ?_
  refine ok_vi ((wr64 (x:=(s.size:Int)+x) (by omega) (by omega)).trans (by omega)) (by kernel_rfl) ?_
  refine ok_vr (hfr) (by kernel_rfl) ?_
  refine ok_vr (q2) (by kernel_rfl) ?_
  refine ok_v (by kernel_rfl) ?_
  exact ok_nil
 replace hS:=SymF.fb hS hF [0] [⟨(p1 0).N,#[.bool g,.string s,.int .i64 x],23,true⟩] (by kernel_rfl) (by kernel_rfl)
 replace hG:=hF.gx
 clear hF
 have z9:=hS.fr.size
 refine then_n ?_
 refine wp_symQ hS hG hK (fun p10=>[.v 67 (.pointer (some ⟨(p1 0).N,0,none⟩)),.l 68 (.bool g) 0 0,.c (some 69) (cV (.string sg)),.v 70 (.string d1),.v 71 (.string t),.v 5 (.string t)]) (fun p10=>[(1,.pointer (some ⟨(p1 0).N,0,none⟩)),(2,.string { data:=#[] }),(3,.int .i64 0),(4,.int .i64 0),(5,.string t),(9,.bool false),(12,.bool false),(24,.bool false),(29,.bool false),(40,.bool false)]) (by kernel_rfl) (fun _ _=>by kernel_rfl) (fun _=>by kernel_rfl) (fun _=>by kernel_rfl) (fun p10=>?_) (fun p10 W10 T hF hK=>?_)
 ·refine ok_v (by kernel_rfl) ?_
  refine ok_L (by kernel_rfl) (by kernel_rfl) (by kernel_rfl) ?_
  refine ok_c (fun W cx=>as_v (unhide HN _)) (by kernel_rfl) ?_
  refine ok_v (by kernel_rfl) ?_
  refine ok_vr (q3) (by kernel_rfl) ?_
  refine ok_v (by kernel_rfl) ?_
  exact ok_nil
 replace hS:=SymF.fb hS hF [0] [⟨(p1 0).N,#[.bool g,.string s,.int .i64 x],23,true⟩] (by kernel_rfl) (by kernel_rfl)
 replace hG:=hF.gx
 clear hF
 have z10:=hS.fr.size
 refine wp_seq ?_
 refine wp_symQ hS hG hK (fun p11=>[.v 72 (.string t),.v 73 (.int .i64 (t.size:Int)),.v 74 (.bool true)]) (fun p11=>[(1,.pointer (some ⟨(p1 0).N,0,none⟩)),(2,.string { data:=#[] }),(3,.int .i64 0),(4,.int .i64 0),(5,.string t),(9,.bool false),(12,.bool false),(24,.bool false),(29,.bool false),(40,.bool false),(74,.bool true)]) (by kernel_rfl) (fun _ _=>by kernel_rfl) (fun _=>by kernel_rfl) (fun _=>by kernel_rfl) (fun p11=>?_) (fun p11 W11 T hF hK=>?_)
 ·iterate 2 refine ok_v (by kernel_rfl) ?_
  refine ok_vb (decide_eq_true (show (t.size:Int) > 65536 by omega)) (by kernel_rfl) ?_
  exact ok_nil
 replace hS:=SymF.fb hS hF [0] [⟨(p1 0).N,#[.bool g,.string s,.int .i64 x],23,true⟩] (by kernel_rfl) (by kernel_rfl)
 replace hG:=hF.gx
 clear hF
 have z11:=hS.fr.size
 refine wp_cond_true (hK.ev 74 (by kernel_rfl) _ (by kernel_rfl)) ?_
 refine wp_symQ hS hG hK (fun p12=>[.v 2 (.string { data:=#[] }),.v 3 (.int .i64 4)]) (fun p12=>[(1,.pointer (some ⟨(p1 0).N,0,none⟩)),(2,.string { data:=#[] }),(3,.int .i64 4),(4,.int .i64 0),(5,.string t),(9,.bool false),(12,.bool false),(24,.bool false),(29,.bool false),(40,.bool false),(74,.bool true)]) (by kernel_rfl) (fun _ _=>by kernel_rfl) (fun _=>by kernel_rfl) (fun _=>by kernel_rfl) (fun p12=>?_) (fun p12 W12 T hF hK=>?_)
 ·iterate 2 refine ok_v (by kernel_rfl) ?_
  exact ok_nil
 replace hS:=SymF.fb hS hF [0] [⟨(p1 0).N,#[.bool g,.string s,.int .i64 x],23,true⟩] (by kernel_rfl) (by kernel_rfl)
 replace hG:=hF.gx
 clear hF
 have z12:=hS.fr.size
 refine wp_ret ?_
 refine then_r ?_
 exact sym_end hS hK (.tuple #[.string ⟨#[]⟩,.int .i64 4]) [] [] (by kernel_rfl) (by kernel_rfl) ⟨rfl,hS.fr⟩
theorem rpl_qm (w:World) (g:Bool) (s:ByteArray) (x:Int) (sg u a1 b1 c1 d1 t:ByteArray) (j m:Nat) (k:Nat) (hxj:x = -(j:Int)) (hj0:0 < j) (hj:j≤65536) (hsg:sg.size≤1) (hsm:s.size≤65536) (hk:s.size+k = j+1) (hjs:s.size≤j) (q0c:noS k ++ s = u) (hus:u.size = j+1) (hm:m+j = u.size) (ha1:u.extract 0 m = a1) (ha1s:a1.size≤131072) (q1c:a1 ++ (⟨#[46]⟩:ByteArray) = b1) (hb1s:b1.size≤131073) (hc1:u.extract m u.size = c1) (hc1s:c1.size≤131072) (q2c:b1 ++ c1 = d1) (hd1s:d1.size≤262145) (q3c:sg ++ d1 = t) (ht:65536 < t.size) (hz:s.size≠0) (HC:Hid (∀ W:World,Calls Tryd.prog 14 #[.agg #[.bool g,.string s,.int .i64 x]] W fun e W'=>e = .returned (.int .i64 0)∧Below W.heap.size W W')) (HN:Hid (∀ W:World,Calls Tryd.prog 16 #[.bool g] W fun e W'=>e = .returned (.string sg)∧Below W.heap.size W W'))  :
  Calls Tryd.prog 5 #[.agg #[.bool g,.string s,.int .i64 x]] w fun en w'=>en = .returned (.tuple #[.string ⟨#[]⟩,.int .i64 4])∧Below w.heap.size w w':=by
 have ek:(noS k).size = k:=size_noS k
 have q0:script Tryd.prog 0 (Op.stringOp .add (noS k) s) [] = some (.string u,[]):=by rw [← q0c]; exact script_cat (by omega)
 have e46:(⟨#[46]⟩:ByteArray).size = 1:=rfl
 have hto:script Tryd.prog 0 (Instr.sliceAt 9 (.string u) none (some (.int .i64 (m:Int))) none) [] = some (.string a1,[]):=by rw [← ha1]; exact script_to Tryd.under_str (by omega) (by omega)
 have hfr:script Tryd.prog 0 (Instr.sliceAt 9 (.string u) (some (.int .i64 (m:Int))) none none) [] = some (.string c1,[]):=by rw [← hc1]; exact script_from Tryd.under_str (by omega) (by omega)
 have q1:script Tryd.prog 0 (Op.stringOp .add a1 ⟨#[46]⟩) [] = some (.string b1,[]):=by rw [← q1c]; exact script_cat (by omega)
 have q2:script Tryd.prog 0 (Op.stringOp .add b1 c1) [] = some (.string d1,[]):=by rw [← q2c]; exact script_cat (by omega)
 have q3:script Tryd.prog 0 (Op.stringOp .add sg d1) [] = some (.string t,[]):=by rw [← q3c]; exact script_cat (by omega)
 refine calls_sym Tryd.func5 rfl (by kernel_rfl) fun T hK=>?_
 replace hK:Kn T _ [(0,.agg #[.bool g,.string s,.int .i64 x])]:=hK
 have hS:=Fb.begin w
 have hG:GsAt [] w:=trivial
 refine wp_symQ hS hG hK (fun p1=>[.n 1 #[.bool g,.string s,.int .i64 x] 23,.v 2 (.string { data:=#[] }),.v 3 (.int .i64 0)]) (fun p1=>[(1,.pointer (some ⟨(p1 0).N,0,none⟩)),(2,.string { data:=#[] }),(3,.int .i64 0)]) (by kernel_rfl) (fun _ _=>by kernel_rfl) (fun _=>by kernel_rfl) (fun _=>by kernel_rfl) (fun p1=>?_) (fun p1 W1 T hF hK=>?_)
 ·refine ok_n (fun _=>by kernel_rfl) ?_
  iterate 2 refine ok_v (by kernel_rfl) ?_
  exact ok_nil
 replace hS:=SymF.fb hS hF [1000] [⟨(p1 0).N,#[.bool g,.string s,.int .i64 x],23,true⟩] (by kernel_rfl) (by kernel_rfl)
 replace hG:=hF.gx
 clear hF
 have z1:=hS.fr.size
 refine wp_symQ hS hG hK (fun p2=>[.l 6 (.agg #[.bool g,.string s,.int .i64 x]) 0 0,.c (some 7) (cV (.int .i64 0)),.v 4 (.int .i64 0)]) (fun p2=>[(1,.pointer (some ⟨(p1 0).N,0,none⟩)),(2,.string { data:=#[] }),(3,.int .i64 0),(4,.int .i64 0)]) (by kernel_rfl) (fun _ _=>by kernel_rfl) (fun _=>by kernel_rfl) (fun _=>by kernel_rfl) (fun p2=>?_) (fun p2 W2 T hF hK=>?_)
 ·refine ok_L (by kernel_rfl) (by kernel_rfl) (by kernel_rfl) ?_
  refine ok_c (fun W cx=>as_v (unhide HC _)) (by kernel_rfl) ?_
  refine ok_v (by kernel_rfl) ?_
  exact ok_nil
 replace hS:=SymF.fb hS hF [0] [⟨(p1 0).N,#[.bool g,.string s,.int .i64 x],23,true⟩] (by kernel_rfl) (by kernel_rfl)
 replace hG:=hF.gx
 clear hF
 have z2:=hS.fr.size
 refine wp_seq ?_
 refine wp_symQ hS hG hK (fun p3=>[.v 8 (.int .i64 0),.v 9 (.bool false)]) (fun p3=>[(1,.pointer (some ⟨(p1 0).N,0,none⟩)),(2,.string { data:=#[] }),(3,.int .i64 0),(4,.int .i64 0),(9,.bool false)]) (by kernel_rfl) (fun _ _=>by kernel_rfl) (fun _=>by kernel_rfl) (fun _=>by kernel_rfl) (fun p3=>?_) (fun p3 W3 T hF hK=>?_)
 ·iterate 2 refine ok_v (by kernel_rfl) ?_
  exact ok_nil
 replace hS:=SymF.fb hS hF [0] [⟨(p1 0).N,#[.bool g,.string s,.int .i64 x],23,true⟩] (by kernel_rfl) (by kernel_rfl)
 replace hG:=hF.gx
 clear hF
 have z3:=hS.fr.size
 refine wp_cond_false (hK.ev 9 (by kernel_rfl) _ (by kernel_rfl)) ?_
 refine wp_skip ?_
 refine then_n ?_
 refine wp_seq ?_
 refine wp_symQ hS hG hK (fun p4=>[.l 11 (.agg #[.bool g,.string s,.int .i64 x]) 0 0,.c (some 12) (cV (.bool false))]) (fun p4=>[(1,.pointer (some ⟨(p1 0).N,0,none⟩)),(2,.string { data:=#[] }),(3,.int .i64 0),(4,.int .i64 0),(9,.bool false),(12,.bool false)]) (by kernel_rfl) (fun _ _=>by kernel_rfl) (fun _=>by kernel_rfl) (fun _=>by kernel_rfl) (fun p4=>?_) (fun p4 W4 T hF hK=>?_)
 ·refine ok_L (by kernel_rfl) (by kernel_rfl) (by kernel_rfl) ?_
  refine ok_c (fun W cx=>as_v (rnone_f _ g s x hz)) (by kernel_rfl) ?_
  exact ok_nil
 replace hS:=SymF.fb hS hF [0] [⟨(p1 0).N,#[.bool g,.string s,.int .i64 x],23,true⟩] (by kernel_rfl) (by kernel_rfl)
 replace hG:=hF.gx
 clear hF
 have z4:=hS.fr.size
 refine wp_cond_false (hK.ev 12 (by kernel_rfl) _ (by kernel_rfl)) ?_
 refine wp_skip ?_
 refine then_n ?_
 refine wp_seq ?_
 refine wp_symQ hS hG hK (fun p5=>[.v 17 (.pointer (some ⟨(p1 0).N,2,none⟩)),.l 18 (.int .i64 x) 0 2,.v 19 (.bool false),.v 20 (.bool false),.v 21 (.pointer (some ⟨(p1 0).N,2,none⟩)),.l 22 (.int .i64 x) 0 2,.v 23 (.bool false),.v 24 (.bool false)]) (fun p5=>[(1,.pointer (some ⟨(p1 0).N,0,none⟩)),(2,.string { data:=#[] }),(3,.int .i64 0),(4,.int .i64 0),(9,.bool false),(12,.bool false),(24,.bool false)]) (by kernel_rfl) (fun _ _=>by kernel_rfl) (fun _=>by kernel_rfl) (fun _=>by kernel_rfl) (fun p5=>?_) (fun p5 W5 T hF hK=>?_)
 ·refine ok_v (by kernel_rfl) ?_
  refine ok_L (by kernel_rfl) (by kernel_rfl) (by kernel_rfl) ?_
  refine ok_vb (decide_eq_false (show ¬ x > 65536 by omega)) (by kernel_rfl) ?_
  iterate 2 refine ok_v (by kernel_rfl) ?_
  refine ok_L (by kernel_rfl) (by kernel_rfl) (by kernel_rfl) ?_
  refine ok_vb (decide_eq_false (show ¬ x < -65536 by omega)) (by kernel_rfl) ?_
  refine ok_v (by kernel_rfl) ?_
  exact ok_nil
 replace hS:=SymF.fb hS hF [0] [⟨(p1 0).N,#[.bool g,.string s,.int .i64 x],23,true⟩] (by kernel_rfl) (by kernel_rfl)
 replace hG:=hF.gx
 clear hF
 have z5:=hS.fr.size
 refine wp_cond_false (hK.ev 24 (by kernel_rfl) _ (by kernel_rfl)) ?_
 refine wp_skip ?_
 refine then_n ?_
 refine wp_symQ hS hG hK (fun p6=>[.v 25 (.pointer (some ⟨(p1 0).N,1,none⟩)),.l 26 (.string s) 0 1,.v 5 (.string s)]) (fun p6=>[(1,.pointer (some ⟨(p1 0).N,0,none⟩)),(2,.string { data:=#[] }),(3,.int .i64 0),(4,.int .i64 0),(5,.string s),(9,.bool false),(12,.bool false),(24,.bool false)]) (by kernel_rfl) (fun _ _=>by kernel_rfl) (fun _=>by kernel_rfl) (fun _=>by kernel_rfl) (fun p6=>?_) (fun p6 W6 T hF hK=>?_)
 ·refine ok_v (by kernel_rfl) ?_
  refine ok_L (by kernel_rfl) (by kernel_rfl) (by kernel_rfl) ?_
  refine ok_v (by kernel_rfl) ?_
  exact ok_nil
 replace hS:=SymF.fb hS hF [0] [⟨(p1 0).N,#[.bool g,.string s,.int .i64 x],23,true⟩] (by kernel_rfl) (by kernel_rfl)
 replace hG:=hF.gx
 clear hF
 have z6:=hS.fr.size
 refine wp_seq ?_
 refine wp_symQ hS hG hK (fun p7=>[.v 27 (.pointer (some ⟨(p1 0).N,2,none⟩)),.l 28 (.int .i64 x) 0 2,.v 29 (.bool false)]) (fun p7=>[(1,.pointer (some ⟨(p1 0).N,0,none⟩)),(2,.string { data:=#[] }),(3,.int .i64 0),(4,.int .i64 0),(5,.string s),(9,.bool false),(12,.bool false),(24,.bool false),(29,.bool false)]) (by kernel_rfl) (fun _ _=>by kernel_rfl) (fun _=>by kernel_rfl) (fun _=>by kernel_rfl) (fun p7=>?_) (fun p7 W7 T hF hK=>?_)
 ·refine ok_v (by kernel_rfl) ?_
  refine ok_L (by kernel_rfl) (by kernel_rfl) (by kernel_rfl) ?_
  refine ok_vb (decide_eq_false (show ¬ x ≥ 0 by omega)) (by kernel_rfl) ?_
  exact ok_nil
 replace hS:=SymF.fb hS hF [0] [⟨(p1 0).N,#[.bool g,.string s,.int .i64 x],23,true⟩] (by kernel_rfl) (by kernel_rfl)
 replace hG:=hF.gx
 clear hF
 have z7:=hS.fr.size
 refine wp_cond_false (hK.ev 29 (by kernel_rfl) _ (by kernel_rfl)) ?_
 refine wp_seq ?_
 refine wp_symQ hS hG hK (fun p8=>[.v 35 (.string s),.v 36 (.int .i64 (s.size:Int)),.v 37 (.pointer (some ⟨(p1 0).N,2,none⟩)),.l 38 (.int .i64 x) 0 2,.v 39 (.int .i64 (j:Int)),.v 40 (.bool true)]) (fun p8=>[(1,.pointer (some ⟨(p1 0).N,0,none⟩)),(2,.string { data:=#[] }),(3,.int .i64 0),(4,.int .i64 0),(5,.string s),(9,.bool false),(12,.bool false),(24,.bool false),(29,.bool false),(40,.bool true)]) (by kernel_rfl) (fun _ _=>by kernel_rfl) (fun _=>by kernel_rfl) (fun _=>by kernel_rfl) (fun p8=>?_) (fun p8 W8 T hF hK=>?_)
 ·iterate 3 refine ok_v (by kernel_rfl) ?_
  refine ok_L (by kernel_rfl) (by kernel_rfl) (by kernel_rfl) ?_
  refine ok_vi ((wr64 (x:=0 - x) (by omega) (by omega)).trans (by omega)) (by kernel_rfl) ?_
  refine ok_vb (decide_eq_true (show (s.size:Int)≤(j:Int) by omega)) (by kernel_rfl) ?_
  exact ok_nil
 replace hS:=SymF.fb hS hF [0] [⟨(p1 0).N,#[.bool g,.string s,.int .i64 x],23,true⟩] (by kernel_rfl) (by kernel_rfl)
 replace hG:=hF.gx
 clear hF
 have z8:=hS.fr.size
 refine wp_cond_true (hK.ev 40 (by kernel_rfl) _ (by kernel_rfl)) ?_
 refine wp_symG hS hG hK (fun p9=>[.v 41 (.pointer (some ⟨(p1 0).N,2,none⟩)),.l 42 (.int .i64 x) 0 2,.v 43 (.int .i64 (j:Int)),.v 44 (.int .i64 ((j:Int)+1)),.v 45 (.string s),.v 46 (.int .i64 (s.size:Int)),.v 47 (.int .i64 (k:Int)),.c (some 48) (cV (.string (noS k))),.v 49 (.string s),.v 50 (.string u),.v 5 (.string u)]) (fun p9=>[(1,.pointer (some ⟨(p1 0).N,0,none⟩)),(2,.string { data:=#[] }),(3,.int .i64 0),(4,.int .i64 0),(5,.string u),(9,.bool false),(12,.bool false),(24,.bool false),(29,.bool false),(40,.bool true)]) (by kernel_rfl) (fun _ _=>by kernel_rfl) (fun _=>by kernel_rfl) (fun _=>by kernel_rfl) (fun p9=>?_) (fun p9 W9 T hF hK=>?_)
 ·refine ok_v (by kernel_rfl) ?_
  refine ok_L (by kernel_rfl) (by kernel_rfl) (by kernel_rfl) ?_
  refine ok_vi ((wr64 (x:=0 - x) (by omega) (by omega)).trans (by omega)) (by kernel_rfl) ?_
  refine ok_vi (wr64 (x:=(j:Int)+1) (by omega) (by omega)) (by kernel_rfl) ?_
  iterate 2 refine ok_v (by kernel_rfl) ?_
  refine ok_vi ((wr64 (x:=(j:Int)+1 - (s.size:Int)) (by omega) (by omega)).trans (by omega)) (by kernel_rfl) ?_
  refine ok_c (fun W cx=>as_v (rnoughts_any k (by omega) _)) (by kernel_rfl) ?_
  refine ok_v (by kernel_rfl) ?_
  refine ok_vr (q0) (by kernel_rfl) ?_
  refine ok_v (by kernel_rfl) ?_
  exact ok_nil
 replace hS:=SymF.fb hS hF [0] [⟨(p1 0).N,#[.bool g,.string s,.int .i64 x],23,true⟩] (by kernel_rfl) (by kernel_rfl)
 replace hG:=hF.gx
 clear hF
 have z9:=hS.fr.size
 refine then_n ?_
 refine wp_symG hS hG hK (fun p10=>[.v 51 (.string u),.v 52 (.string u),.v 53 (.int .i64 (u.size:Int)),.v 54 (.pointer (some ⟨(p1 0).N,2,none⟩)),.l 55 (.int .i64 x) 0 2,.v 56 (.int .i64 (m:Int)),.v 57 (.string a1),.v 58 (.string b1),.v 59 (.string u),.v 60 (.string u),.v 61 (.int .i64 (u.size:Int)),.v 62 (.pointer (some ⟨(p1 0).N,2,none⟩)),.l 63 (.int .i64 x) 0 2,.v 64 (.int .i64 (m:Int)),.v 65 (.string c1),.v 66 (.string d1),.v 5 (.string d1)]) (fun p10=>[(1,.pointer (some ⟨(p1 0).N,0,none⟩)),(2,.string { data:=#[] }),(3,.int .i64 0),(4,.int .i64 0),(5,.string d1),(9,.bool false),(12,.bool false),(24,.bool false),(29,.bool false),(40,.bool true)]) (by kernel_rfl) (fun _ _=>by kernel_rfl) (fun _=>by kernel_rfl) (fun _=>by kernel_rfl) (fun p10=>?_) (fun p10 W10 T hF hK=>?_)
 ·iterate 4 refine ok_v (by kernel_rfl) ?_
  refine ok_L (by kernel_rfl) (by kernel_rfl) (by kernel_rfl) ?_
  refine ok_vi ((wr64 (x:=(u.size:Int)+x) (by omega) (by omega)).trans (by omega)) (by kernel_rfl) ?_
  refine ok_vr (hto) (by kernel_rfl) ?_
  refine ok_vr (q1) (by kernel_rfl) ?_
  iterate 4 refine ok_v (by kernel_rfl) ?_
  refine ok_L (by kernel_rfl) (by kernel_rfl) (by kernel_rfl) ?_
  refine ok_vi ((wr64 (x:=(u.size:Int)+x) (by omega) (by omega)).trans (by omega)) (by kernel_rfl) ?_
  refine ok_vr (hfr) (by kernel_rfl) ?_
  refine ok_vr (q2) (by kernel_rfl) ?_
  refine ok_v (by kernel_rfl) ?_
  exact ok_nil
 replace hS:=SymF.fb hS hF [0] [⟨(p1 0).N,#[.bool g,.string s,.int .i64 x],23,true⟩] (by kernel_rfl) (by kernel_rfl)
 replace hG:=hF.gx
 clear hF
 have z10:=hS.fr.size
 refine then_n ?_
 refine wp_symQ hS hG hK (fun p11=>[.v 67 (.pointer (some ⟨(p1 0).N,0,none⟩)),.l 68 (.bool g) 0 0,.c (some 69) (cV (.string sg)),.v 70 (.string d1),.v 71 (.string t),.v 5 (.string t)]) (fun p11=>[(1,.pointer (some ⟨(p1 0).N,0,none⟩)),(2,.string { data:=#[] }),(3,.int .i64 0),(4,.int .i64 0),(5,.string t),(9,.bool false),(12,.bool false),(24,.bool false),(29,.bool false),(40,.bool true)]) (by kernel_rfl) (fun _ _=>by kernel_rfl) (fun _=>by kernel_rfl) (fun _=>by kernel_rfl) (fun p11=>?_) (fun p11 W11 T hF hK=>?_)
 ·refine ok_v (by kernel_rfl) ?_
  refine ok_L (by kernel_rfl) (by kernel_rfl) (by kernel_rfl) ?_
  refine ok_c (fun W cx=>as_v (unhide HN _)) (by kernel_rfl) ?_
  refine ok_v (by kernel_rfl) ?_
  refine ok_vr (q3) (by kernel_rfl) ?_
  refine ok_v (by kernel_rfl) ?_
  exact ok_nil
 replace hS:=SymF.fb hS hF [0] [⟨(p1 0).N,#[.bool g,.string s,.int .i64 x],23,true⟩] (by kernel_rfl) (by kernel_rfl)
 replace hG:=hF.gx
 clear hF
 have z11:=hS.fr.size
 refine wp_seq ?_
 refine wp_symQ hS hG hK (fun p12=>[.v 72 (.string t),.v 73 (.int .i64 (t.size:Int)),.v 74 (.bool true)]) (fun p12=>[(1,.pointer (some ⟨(p1 0).N,0,none⟩)),(2,.string { data:=#[] }),(3,.int .i64 0),(4,.int .i64 0),(5,.string t),(9,.bool false),(12,.bool false),(24,.bool false),(29,.bool false),(40,.bool true),(74,.bool true)]) (by kernel_rfl) (fun _ _=>by kernel_rfl) (fun _=>by kernel_rfl) (fun _=>by kernel_rfl) (fun p12=>?_) (fun p12 W12 T hF hK=>?_)
 ·iterate 2 refine ok_v (by kernel_rfl) ?_
  refine ok_vb (decide_eq_true (show (t.size:Int) > 65536 by omega)) (by kernel_rfl) ?_
  exact ok_nil
 replace hS:=SymF.fb hS hF [0] [⟨(p1 0).N,#[.bool g,.string s,.int .i64 x],23,true⟩] (by kernel_rfl) (by kernel_rfl)
 replace hG:=hF.gx
 clear hF
 have z12:=hS.fr.size
 refine wp_cond_true (hK.ev 74 (by kernel_rfl) _ (by kernel_rfl)) ?_
 refine wp_symQ hS hG hK (fun p13=>[.v 2 (.string { data:=#[] }),.v 3 (.int .i64 4)]) (fun p13=>[(1,.pointer (some ⟨(p1 0).N,0,none⟩)),(2,.string { data:=#[] }),(3,.int .i64 4),(4,.int .i64 0),(5,.string t),(9,.bool false),(12,.bool false),(24,.bool false),(29,.bool false),(40,.bool true),(74,.bool true)]) (by kernel_rfl) (fun _ _=>by kernel_rfl) (fun _=>by kernel_rfl) (fun _=>by kernel_rfl) (fun p13=>?_) (fun p13 W13 T hF hK=>?_)
 ·iterate 2 refine ok_v (by kernel_rfl) ?_
  exact ok_nil
 replace hS:=SymF.fb hS hF [0] [⟨(p1 0).N,#[.bool g,.string s,.int .i64 x],23,true⟩] (by kernel_rfl) (by kernel_rfl)
 replace hG:=hF.gx
 clear hF
 have z13:=hS.fr.size
 refine wp_ret ?_
 refine then_r ?_
 exact sym_end hS hK (.tuple #[.string ⟨#[]⟩,.int .i64 4]) [] [] (by kernel_rfl) (by kernel_rfl) ⟨rfl,hS.fr⟩
theorem rpl_po (w:World) (g:Bool) (s:ByteArray) (x:Int) (sg u t:ByteArray) (k:Nat) (hxk:x = (k:Int)) (hk:k≤65536) (hsg:sg.size≤1) (hsm:s.size≤65536) (q1c:s ++ noS k = u) (hus:u.size≤131072) (q2c:sg ++ u = t) (ht:t.size≤65536) (hz:s.size≠0) (HC:Hid (∀ W:World,Calls Tryd.prog 14 #[.agg #[.bool g,.string s,.int .i64 x]] W fun e W'=>e = .returned (.int .i64 0)∧Below W.heap.size W W')) (HN:Hid (∀ W:World,Calls Tryd.prog 16 #[.bool g] W fun e W'=>e = .returned (.string sg)∧Below W.heap.size W W'))  :
  Calls Tryd.prog 5 #[.agg #[.bool g,.string s,.int .i64 x]] w fun en w'=>en = .returned (.tuple #[.string t,.int .i64 0])∧Below w.heap.size w w':=by
 have HNO:∀ W:World,Calls Tryd.prog 17 #[.int .i64 x] W fun e W'=>e = .returned (.string (noS k))∧Below W.heap.size W W':=fun W=>by rw [hxk]; exact rnoughts_any k (by omega) W
 have ek:(noS k).size = k:=size_noS k
 have q1:script Tryd.prog 0 (Op.stringOp .add s (noS k)) [] = some (.string u,[]):=by rw [← q1c]; exact script_cat (by omega)
 have q2:script Tryd.prog 0 (Op.stringOp .add sg u) [] = some (.string t,[]):=by rw [← q2c]; exact script_cat (by omega)
 refine calls_sym Tryd.func5 rfl (by kernel_rfl) fun T hK=>?_
 replace hK:Kn T _ [(0,.agg #[.bool g,.string s,.int .i64 x])]:=hK
 have hS:=Fb.begin w
 have hG:GsAt [] w:=trivial
 refine wp_symQ hS hG hK (fun p1=>[.n 1 #[.bool g,.string s,.int .i64 x] 23,.v 2 (.string { data:=#[] }),.v 3 (.int .i64 0)]) (fun p1=>[(1,.pointer (some ⟨(p1 0).N,0,none⟩)),(2,.string { data:=#[] }),(3,.int .i64 0)]) (by kernel_rfl) (fun _ _=>by kernel_rfl) (fun _=>by kernel_rfl) (fun _=>by kernel_rfl) (fun p1=>?_) (fun p1 W1 T hF hK=>?_)
 ·refine ok_n (fun _=>by kernel_rfl) ?_
  iterate 2 refine ok_v (by kernel_rfl) ?_
  exact ok_nil
 replace hS:=SymF.fb hS hF [1000] [⟨(p1 0).N,#[.bool g,.string s,.int .i64 x],23,true⟩] (by kernel_rfl) (by kernel_rfl)
 replace hG:=hF.gx
 clear hF
 have z1:=hS.fr.size
 refine wp_symQ hS hG hK (fun p2=>[.l 6 (.agg #[.bool g,.string s,.int .i64 x]) 0 0,.c (some 7) (cV (.int .i64 0)),.v 4 (.int .i64 0)]) (fun p2=>[(1,.pointer (some ⟨(p1 0).N,0,none⟩)),(2,.string { data:=#[] }),(3,.int .i64 0),(4,.int .i64 0)]) (by kernel_rfl) (fun _ _=>by kernel_rfl) (fun _=>by kernel_rfl) (fun _=>by kernel_rfl) (fun p2=>?_) (fun p2 W2 T hF hK=>?_)
 ·refine ok_L (by kernel_rfl) (by kernel_rfl) (by kernel_rfl) ?_
  refine ok_c (fun W cx=>as_v (unhide HC _)) (by kernel_rfl) ?_
  refine ok_v (by kernel_rfl) ?_
  exact ok_nil
 replace hS:=SymF.fb hS hF [0] [⟨(p1 0).N,#[.bool g,.string s,.int .i64 x],23,true⟩] (by kernel_rfl) (by kernel_rfl)
 replace hG:=hF.gx
 clear hF
 have z2:=hS.fr.size
 refine wp_seq ?_
 refine wp_symQ hS hG hK (fun p3=>[.v 8 (.int .i64 0),.v 9 (.bool false)]) (fun p3=>[(1,.pointer (some ⟨(p1 0).N,0,none⟩)),(2,.string { data:=#[] }),(3,.int .i64 0),(4,.int .i64 0),(9,.bool false)]) (by kernel_rfl) (fun _ _=>by kernel_rfl) (fun _=>by kernel_rfl) (fun _=>by kernel_rfl) (fun p3=>?_) (fun p3 W3 T hF hK=>?_)
 ·iterate 2 refine ok_v (by kernel_rfl) ?_
  exact ok_nil
 replace hS:=SymF.fb hS hF [0] [⟨(p1 0).N,#[.bool g,.string s,.int .i64 x],23,true⟩] (by kernel_rfl) (by kernel_rfl)
 replace hG:=hF.gx
 clear hF
 have z3:=hS.fr.size
 refine wp_cond_false (hK.ev 9 (by kernel_rfl) _ (by kernel_rfl)) ?_
 refine wp_skip ?_
 refine then_n ?_
 refine wp_seq ?_
 refine wp_symQ hS hG hK (fun p4=>[.l 11 (.agg #[.bool g,.string s,.int .i64 x]) 0 0,.c (some 12) (cV (.bool false))]) (fun p4=>[(1,.pointer (some ⟨(p1 0).N,0,none⟩)),(2,.string { data:=#[] }),(3,.int .i64 0),(4,.int .i64 0),(9,.bool false),(12,.bool false)]) (by kernel_rfl) (fun _ _=>by kernel_rfl) (fun _=>by kernel_rfl) (fun _=>by kernel_rfl) (fun p4=>?_) (fun p4 W4 T hF hK=>?_)
 ·refine ok_L (by kernel_rfl) (by kernel_rfl) (by kernel_rfl) ?_
  refine ok_c (fun W cx=>as_v (rnone_f _ g s x hz)) (by kernel_rfl) ?_
  exact ok_nil
 replace hS:=SymF.fb hS hF [0] [⟨(p1 0).N,#[.bool g,.string s,.int .i64 x],23,true⟩] (by kernel_rfl) (by kernel_rfl)
 replace hG:=hF.gx
 clear hF
 have z4:=hS.fr.size
 refine wp_cond_false (hK.ev 12 (by kernel_rfl) _ (by kernel_rfl)) ?_
 refine wp_skip ?_
 refine then_n ?_
 refine wp_seq ?_
 refine wp_symQ hS hG hK (fun p5=>[.v 17 (.pointer (some ⟨(p1 0).N,2,none⟩)),.l 18 (.int .i64 x) 0 2,.v 19 (.bool false),.v 20 (.bool false),.v 21 (.pointer (some ⟨(p1 0).N,2,none⟩)),.l 22 (.int .i64 x) 0 2,.v 23 (.bool false),.v 24 (.bool false)]) (fun p5=>[(1,.pointer (some ⟨(p1 0).N,0,none⟩)),(2,.string { data:=#[] }),(3,.int .i64 0),(4,.int .i64 0),(9,.bool false),(12,.bool false),(24,.bool false)]) (by kernel_rfl) (fun _ _=>by kernel_rfl) (fun _=>by kernel_rfl) (fun _=>by kernel_rfl) (fun p5=>?_) (fun p5 W5 T hF hK=>?_)
 ·refine ok_v (by kernel_rfl) ?_
  refine ok_L (by kernel_rfl) (by kernel_rfl) (by kernel_rfl) ?_
  refine ok_vb (decide_eq_false (show ¬ x > 65536 by omega)) (by kernel_rfl) ?_
  iterate 2 refine ok_v (by kernel_rfl) ?_
  refine ok_L (by kernel_rfl) (by kernel_rfl) (by kernel_rfl) ?_
  refine ok_vb (decide_eq_false (show ¬ x < -65536 by omega)) (by kernel_rfl) ?_
  refine ok_v (by kernel_rfl) ?_
  exact ok_nil
 replace hS:=SymF.fb hS hF [0] [⟨(p1 0).N,#[.bool g,.string s,.int .i64 x],23,true⟩] (by kernel_rfl) (by kernel_rfl)
 replace hG:=hF.gx
 clear hF
 have z5:=hS.fr.size
 refine wp_cond_false (hK.ev 24 (by kernel_rfl) _ (by kernel_rfl)) ?_
 refine wp_skip ?_
 refine then_n ?_
 refine wp_symQ hS hG hK (fun p6=>[.v 25 (.pointer (some ⟨(p1 0).N,1,none⟩)),.l 26 (.string s) 0 1,.v 5 (.string s)]) (fun p6=>[(1,.pointer (some ⟨(p1 0).N,0,none⟩)),(2,.string { data:=#[] }),(3,.int .i64 0),(4,.int .i64 0),(5,.string s),(9,.bool false),(12,.bool false),(24,.bool false)]) (by kernel_rfl) (fun _ _=>by kernel_rfl) (fun _=>by kernel_rfl) (fun _=>by kernel_rfl) (fun p6=>?_) (fun p6 W6 T hF hK=>?_)
 ·refine ok_v (by kernel_rfl) ?_
  refine ok_L (by kernel_rfl) (by kernel_rfl) (by kernel_rfl) ?_
  refine ok_v (by kernel_rfl) ?_
  exact ok_nil
 replace hS:=SymF.fb hS hF [0] [⟨(p1 0).N,#[.bool g,.string s,.int .i64 x],23,true⟩] (by kernel_rfl) (by kernel_rfl)
 replace hG:=hF.gx
 clear hF
 have z6:=hS.fr.size
 refine wp_seq ?_
 refine wp_symQ hS hG hK (fun p7=>[.v 27 (.pointer (some ⟨(p1 0).N,2,none⟩)),.l 28 (.int .i64 x) 0 2,.v 29 (.bool true)]) (fun p7=>[(1,.pointer (some ⟨(p1 0).N,0,none⟩)),(2,.string { data:=#[] }),(3,.int .i64 0),(4,.int .i64 0),(5,.string s),(9,.bool false),(12,.bool false),(24,.bool false),(29,.bool true)]) (by kernel_rfl) (fun _ _=>by kernel_rfl) (fun _=>by kernel_rfl) (fun _=>by kernel_rfl) (fun p7=>?_) (fun p7 W7 T hF hK=>?_)
 ·refine ok_v (by kernel_rfl) ?_
  refine ok_L (by kernel_rfl) (by kernel_rfl) (by kernel_rfl) ?_
  refine ok_vb (decide_eq_true (show x ≥ 0 by omega)) (by kernel_rfl) ?_
  exact ok_nil
 replace hS:=SymF.fb hS hF [0] [⟨(p1 0).N,#[.bool g,.string s,.int .i64 x],23,true⟩] (by kernel_rfl) (by kernel_rfl)
 replace hG:=hF.gx
 clear hF
 have z7:=hS.fr.size
 refine wp_cond_true (hK.ev 29 (by kernel_rfl) _ (by kernel_rfl)) ?_
 refine wp_symG hS hG hK (fun p8=>[.v 30 (.string s),.v 31 (.pointer (some ⟨(p1 0).N,2,none⟩)),.l 32 (.int .i64 x) 0 2,.c (some 33) (cV (.string (noS k))),.v 34 (.string u),.v 5 (.string u)]) (fun p8=>[(1,.pointer (some ⟨(p1 0).N,0,none⟩)),(2,.string { data:=#[] }),(3,.int .i64 0),(4,.int .i64 0),(5,.string u),(9,.bool false),(12,.bool false),(24,.bool false),(29,.bool true)]) (by kernel_rfl) (fun _ _=>by kernel_rfl) (fun _=>by kernel_rfl) (fun _=>by kernel_rfl) (fun p8=>?_) (fun p8 W8 T hF hK=>?_)
 ·iterate 2 refine ok_v (by kernel_rfl) ?_
  refine ok_L (by kernel_rfl) (by kernel_rfl) (by kernel_rfl) ?_
  refine ok_c (fun W cx=>as_v (HNO _)) (by kernel_rfl) ?_
  refine ok_vr (q1) (by kernel_rfl) ?_
  refine ok_v (by kernel_rfl) ?_
  exact ok_nil
 replace hS:=SymF.fb hS hF [0] [⟨(p1 0).N,#[.bool g,.string s,.int .i64 x],23,true⟩] (by kernel_rfl) (by kernel_rfl)
 replace hG:=hF.gx
 clear hF
 have z8:=hS.fr.size
 refine then_n ?_
 refine wp_symQ hS hG hK (fun p9=>[.v 67 (.pointer (some ⟨(p1 0).N,0,none⟩)),.l 68 (.bool g) 0 0,.c (some 69) (cV (.string sg)),.v 70 (.string u),.v 71 (.string t),.v 5 (.string t)]) (fun p9=>[(1,.pointer (some ⟨(p1 0).N,0,none⟩)),(2,.string { data:=#[] }),(3,.int .i64 0),(4,.int .i64 0),(5,.string t),(9,.bool false),(12,.bool false),(24,.bool false),(29,.bool true)]) (by kernel_rfl) (fun _ _=>by kernel_rfl) (fun _=>by kernel_rfl) (fun _=>by kernel_rfl) (fun p9=>?_) (fun p9 W9 T hF hK=>?_)
 ·refine ok_v (by kernel_rfl) ?_
  refine ok_L (by kernel_rfl) (by kernel_rfl) (by kernel_rfl) ?_
  refine ok_c (fun W cx=>as_v (unhide HN _)) (by kernel_rfl) ?_
  refine ok_v (by kernel_rfl) ?_
  refine ok_vr (q2) (by kernel_rfl) ?_
  refine ok_v (by kernel_rfl) ?_
  exact ok_nil
 replace hS:=SymF.fb hS hF [0] [⟨(p1 0).N,#[.bool g,.string s,.int .i64 x],23,true⟩] (by kernel_rfl) (by kernel_rfl)
 replace hG:=hF.gx
 clear hF
 have z9:=hS.fr.size
 refine wp_seq ?_
 refine wp_symQ hS hG hK (fun p10=>[.v 72 (.string t),.v 73 (.int .i64 (t.size:Int)),.v 74 (.bool false)]) (fun p10=>[(1,.pointer (some ⟨(p1 0).N,0,none⟩)),(2,.string { data:=#[] }),(3,.int .i64 0),(4,.int .i64 0),(5,.string t),(9,.bool false),(12,.bool false),(24,.bool false),(29,.bool true),(74,.bool false)]) (by kernel_rfl) (fun _ _=>by kernel_rfl) (fun _=>by kernel_rfl) (fun _=>by kernel_rfl) (fun p10=>?_) (fun p10 W10 T hF hK=>?_)
 ·iterate 2 refine ok_v (by kernel_rfl) ?_
  refine ok_vb (decide_eq_false (show ¬ (t.size:Int) > 65536 by omega)) (by kernel_rfl) ?_
  exact ok_nil
 replace hS:=SymF.fb hS hF [0] [⟨(p1 0).N,#[.bool g,.string s,.int .i64 x],23,true⟩] (by kernel_rfl) (by kernel_rfl)
 replace hG:=hF.gx
 clear hF
 have z10:=hS.fr.size
 refine wp_cond_false (hK.ev 74 (by kernel_rfl) _ (by kernel_rfl)) ?_
 refine wp_skip ?_
 refine then_n ?_
 refine wp_symQ hS hG hK (fun p11=>[.v 75 (.string t),.v 2 (.string t),.v 3 (.int .i64 0)]) (fun p11=>[(1,.pointer (some ⟨(p1 0).N,0,none⟩)),(2,.string t),(3,.int .i64 0),(4,.int .i64 0),(5,.string t),(9,.bool false),(12,.bool false),(24,.bool false),(29,.bool true),(74,.bool false)]) (by kernel_rfl) (fun _ _=>by kernel_rfl) (fun _=>by kernel_rfl) (fun _=>by kernel_rfl) (fun p11=>?_) (fun p11 W11 T hF hK=>?_)
 ·iterate 3 refine ok_v (by kernel_rfl) ?_
  exact ok_nil
 replace hS:=SymF.fb hS hF [0] [⟨(p1 0).N,#[.bool g,.string s,.int .i64 x],23,true⟩] (by kernel_rfl) (by kernel_rfl)
 replace hG:=hF.gx
 clear hF
 have z11:=hS.fr.size
 refine wp_ret ?_
 exact sym_end hS hK (.tuple #[.string t,.int .i64 0]) [] [] (by kernel_rfl) (by kernel_rfl) ⟨rfl,hS.fr⟩
theorem rpl_io (w:World) (g:Bool) (s:ByteArray) (x:Int) (sg a1 b1 c1 d1 t:ByteArray) (j m:Nat) (hxj:x = -(j:Int)) (hj0:0 < j) (hj:j≤65536) (hsg:sg.size≤1) (hsm:s.size≤65536) (hjs:j < s.size) (hm:m+j = s.size) (ha1:s.extract 0 m = a1) (ha1s:a1.size≤131072) (q1c:a1 ++ (⟨#[46]⟩:ByteArray) = b1) (hb1s:b1.size≤131073) (hc1:s.extract m s.size = c1) (hc1s:c1.size≤131072) (q2c:b1 ++ c1 = d1) (hd1s:d1.size≤262145) (q3c:sg ++ d1 = t) (ht:t.size≤65536) (hz:s.size≠0) (HC:Hid (∀ W:World,Calls Tryd.prog 14 #[.agg #[.bool g,.string s,.int .i64 x]] W fun e W'=>e = .returned (.int .i64 0)∧Below W.heap.size W W')) (HN:Hid (∀ W:World,Calls Tryd.prog 16 #[.bool g] W fun e W'=>e = .returned (.string sg)∧Below W.heap.size W W'))  :
  Calls Tryd.prog 5 #[.agg #[.bool g,.string s,.int .i64 x]] w fun en w'=>en = .returned (.tuple #[.string t,.int .i64 0])∧Below w.heap.size w w':=by
 have e46:(⟨#[46]⟩:ByteArray).size = 1:=rfl
 have hto:script Tryd.prog 0 (Instr.sliceAt 9 (.string s) none (some (.int .i64 (m:Int))) none) [] = some (.string a1,[]):=by rw [← ha1]; exact script_to Tryd.under_str (by omega) (by omega)
 have hfr:script Tryd.prog 0 (Instr.sliceAt 9 (.string s) (some (.int .i64 (m:Int))) none none) [] = some (.string c1,[]):=by rw [← hc1]; exact script_from Tryd.under_str (by omega) (by omega)
 have q1:script Tryd.prog 0 (Op.stringOp .add a1 ⟨#[46]⟩) [] = some (.string b1,[]):=by rw [← q1c]; exact script_cat (by omega)
 have q2:script Tryd.prog 0 (Op.stringOp .add b1 c1) [] = some (.string d1,[]):=by rw [← q2c]; exact script_cat (by omega)
 have q3:script Tryd.prog 0 (Op.stringOp .add sg d1) [] = some (.string t,[]):=by rw [← q3c]; exact script_cat (by omega)
 refine calls_sym Tryd.func5 rfl (by kernel_rfl) fun T hK=>?_
 replace hK:Kn T _ [(0,.agg #[.bool g,.string s,.int .i64 x])]:=hK
 have hS:=Fb.begin w
 have hG:GsAt [] w:=trivial
 refine wp_symQ hS hG hK (fun p1=>[.n 1 #[.bool g,.string s,.int .i64 x] 23,.v 2 (.string { data:=#[] }),.v 3 (.int .i64 0)]) (fun p1=>[(1,.pointer (some ⟨(p1 0).N,0,none⟩)),(2,.string { data:=#[] }),(3,.int .i64 0)]) (by kernel_rfl) (fun _ _=>by kernel_rfl) (fun _=>by kernel_rfl) (fun _=>by kernel_rfl) (fun p1=>?_) (fun p1 W1 T hF hK=>?_)
 ·refine ok_n (fun _=>by kernel_rfl) ?_
  iterate 2 refine ok_v (by kernel_rfl) ?_
  exact ok_nil
 replace hS:=SymF.fb hS hF [1000] [⟨(p1 0).N,#[.bool g,.string s,.int .i64 x],23,true⟩] (by kernel_rfl) (by kernel_rfl)
 replace hG:=hF.gx
 clear hF
 have z1:=hS.fr.size
 refine wp_symQ hS hG hK (fun p2=>[.l 6 (.agg #[.bool g,.string s,.int .i64 x]) 0 0,.c (some 7) (cV (.int .i64 0)),.v 4 (.int .i64 0)]) (fun p2=>[(1,.pointer (some ⟨(p1 0).N,0,none⟩)),(2,.string { data:=#[] }),(3,.int .i64 0),(4,.int .i64 0)]) (by kernel_rfl) (fun _ _=>by kernel_rfl) (fun _=>by kernel_rfl) (fun _=>by kernel_rfl) (fun p2=>?_) (fun p2 W2 T hF hK=>?_)
 ·refine ok_L (by kernel_rfl) (by kernel_rfl) (by kernel_rfl) ?_
  refine ok_c (fun W cx=>as_v (unhide HC _)) (by kernel_rfl) ?_
  refine ok_v (by kernel_rfl) ?_
  exact ok_nil
 replace hS:=SymF.fb hS hF [0] [⟨(p1 0).N,#[.bool g,.string s,.int .i64 x],23,true⟩] (by kernel_rfl) (by kernel_rfl)
 replace hG:=hF.gx
 clear hF
 have z2:=hS.fr.size
 refine wp_seq ?_
 refine wp_symQ hS hG hK (fun p3=>[.v 8 (.int .i64 0),.v 9 (.bool false)]) (fun p3=>[(1,.pointer (some ⟨(p1 0).N,0,none⟩)),(2,.string { data:=#[] }),(3,.int .i64 0),(4,.int .i64 0),(9,.bool false)]) (by kernel_rfl) (fun _ _=>by kernel_rfl) (fun _=>by kernel_rfl) (fun _=>by kernel_rfl) (fun p3=>?_) (fun p3 W3 T hF hK=>?_)
 ·iterate 2 refine ok_v (by kernel_rfl) ?_
  exact ok_nil
 replace hS:=SymF.fb hS hF [0] [⟨(p1 0).N,#[.bool g,.string s,.int .i64 x],23,true⟩] (by kernel_rfl) (by kernel_rfl)
 replace hG:=hF.gx
 clear hF
 have z3:=hS.fr.size
 refine wp_cond_false (hK.ev 9 (by kernel_rfl) _ (by kernel_rfl)) ?_
 refine wp_skip ?_
 refine then_n ?_
 refine wp_seq ?_
 refine wp_symQ hS hG hK (fun p4=>[.l 11 (.agg #[.bool g,.string s,.int .i64 x]) 0 0,.c (some 12) (cV (.bool false))]) (fun p4=>[(1,.pointer (some ⟨(p1 0).N,0,none⟩)),(2,.string { data:=#[] }),(3,.int .i64 0),(4,.int .i64 0),(9,.bool false),(12,.bool false)]) (by kernel_rfl) (fun _ _=>by kernel_rfl) (fun _=>by kernel_rfl) (fun _=>by kernel_rfl) (fun p4=>?_) (fun p4 W4 T hF hK=>?_)
 ·refine ok_L (by kernel_rfl) (by kernel_rfl) (by kernel_rfl) ?_
  refine ok_c (fun W cx=>as_v (rnone_f _ g s x hz)) (by kernel_rfl) ?_
  exact ok_nil
 replace hS:=SymF.fb hS hF [0] [⟨(p1 0).N,#[.bool g,.string s,.int .i64 x],23,true⟩] (by kernel_rfl) (by kernel_rfl)
 replace hG:=hF.gx
 clear hF
 have z4:=hS.fr.size
 refine wp_cond_false (hK.ev 12 (by kernel_rfl) _ (by kernel_rfl)) ?_
 refine wp_skip ?_
 refine then_n ?_
 refine wp_seq ?_
 refine wp_symQ hS hG hK (fun p5=>[.v 17 (.pointer (some ⟨(p1 0).N,2,none⟩)),.l 18 (.int .i64 x) 0 2,.v 19 (.bool false),.v 20 (.bool false),.v 21 (.pointer (some ⟨(p1 0).N,2,none⟩)),.l 22 (.int .i64 x) 0 2,.v 23 (.bool false),.v 24 (.bool false)]) (fun p5=>[(1,.pointer (some ⟨(p1 0).N,0,none⟩)),(2,.string { data:=#[] }),(3,.int .i64 0),(4,.int .i64 0),(9,.bool false),(12,.bool false),(24,.bool false)]) (by kernel_rfl) (fun _ _=>by kernel_rfl) (fun _=>by kernel_rfl) (fun _=>by kernel_rfl) (fun p5=>?_) (fun p5 W5 T hF hK=>?_)
 ·refine ok_v (by kernel_rfl) ?_
  refine ok_L (by kernel_rfl) (by kernel_rfl) (by kernel_rfl) ?_
  refine ok_vb (decide_eq_false (show ¬ x > 65536 by omega)) (by kernel_rfl) ?_
  iterate 2 refine ok_v (by kernel_rfl) ?_
  refine ok_L (by kernel_rfl) (by kernel_rfl) (by kernel_rfl) ?_
  refine ok_vb (decide_eq_false (show ¬ x < -65536 by omega)) (by kernel_rfl) ?_
  refine ok_v (by kernel_rfl) ?_
  exact ok_nil
 replace hS:=SymF.fb hS hF [0] [⟨(p1 0).N,#[.bool g,.string s,.int .i64 x],23,true⟩] (by kernel_rfl) (by kernel_rfl)
 replace hG:=hF.gx
 clear hF
 have z5:=hS.fr.size
 refine wp_cond_false (hK.ev 24 (by kernel_rfl) _ (by kernel_rfl)) ?_
 refine wp_skip ?_
 refine then_n ?_
 refine wp_symQ hS hG hK (fun p6=>[.v 25 (.pointer (some ⟨(p1 0).N,1,none⟩)),.l 26 (.string s) 0 1,.v 5 (.string s)]) (fun p6=>[(1,.pointer (some ⟨(p1 0).N,0,none⟩)),(2,.string { data:=#[] }),(3,.int .i64 0),(4,.int .i64 0),(5,.string s),(9,.bool false),(12,.bool false),(24,.bool false)]) (by kernel_rfl) (fun _ _=>by kernel_rfl) (fun _=>by kernel_rfl) (fun _=>by kernel_rfl) (fun p6=>?_) (fun p6 W6 T hF hK=>?_)
 ·refine ok_v (by kernel_rfl) ?_
  refine ok_L (by kernel_rfl) (by kernel_rfl) (by kernel_rfl) ?_
  refine ok_v (by kernel_rfl) ?_
  exact ok_nil
 replace hS:=SymF.fb hS hF [0] [⟨(p1 0).N,#[.bool g,.string s,.int .i64 x],23,true⟩] (by kernel_rfl) (by kernel_rfl)
 replace hG:=hF.gx
 clear hF
 have z6:=hS.fr.size
 refine wp_seq ?_
 refine wp_symQ hS hG hK (fun p7=>[.v 27 (.pointer (some ⟨(p1 0).N,2,none⟩)),.l 28 (.int .i64 x) 0 2,.v 29 (.bool false)]) (fun p7=>[(1,.pointer (some ⟨(p1 0).N,0,none⟩)),(2,.string { data:=#[] }),(3,.int .i64 0),(4,.int .i64 0),(5,.string s),(9,.bool false),(12,.bool false),(24,.bool false),(29,.bool false)]) (by kernel_rfl) (fun _ _=>by kernel_rfl) (fun _=>by kernel_rfl) (fun _=>by kernel_rfl) (fun p7=>?_) (fun p7 W7 T hF hK=>?_)
 ·refine ok_v (by kernel_rfl) ?_
  refine ok_L (by kernel_rfl) (by kernel_rfl) (by kernel_rfl) ?_
  refine ok_vb (decide_eq_false (show ¬ x ≥ 0 by omega)) (by kernel_rfl) ?_
  exact ok_nil
 replace hS:=SymF.fb hS hF [0] [⟨(p1 0).N,#[.bool g,.string s,.int .i64 x],23,true⟩] (by kernel_rfl) (by kernel_rfl)
 replace hG:=hF.gx
 clear hF
 have z7:=hS.fr.size
 refine wp_cond_false (hK.ev 29 (by kernel_rfl) _ (by kernel_rfl)) ?_
 refine wp_seq ?_
 refine wp_symQ hS hG hK (fun p8=>[.v 35 (.string s),.v 36 (.int .i64 (s.size:Int)),.v 37 (.pointer (some ⟨(p1 0).N,2,none⟩)),.l 38 (.int .i64 x) 0 2,.v 39 (.int .i64 (j:Int)),.v 40 (.bool false)]) (fun p8=>[(1,.pointer (some ⟨(p1 0).N,0,none⟩)),(2,.string { data:=#[] }),(3,.int .i64 0),(4,.int .i64 0),(5,.string s),(9,.bool false),(12,.bool false),(24,.bool false),(29,.bool false),(40,.bool false)]) (by kernel_rfl) (fun _ _=>by kernel_rfl) (fun _=>by kernel_rfl) (fun _=>by kernel_rfl) (fun p8=>?_) (fun p8 W8 T hF hK=>?_)
 ·iterate 3 refine ok_v (by kernel_rfl) ?_
  refine ok_L (by kernel_rfl) (by kernel_rfl) (by kernel_rfl) ?_
  refine ok_vi ((wr64 (x:=0 - x) (by omega) (by omega)).trans (by omega)) (by kernel_rfl) ?_
  refine ok_vb (decide_eq_false (show ¬ (s.size:Int)≤(j:Int) by omega)) (by kernel_rfl) ?_
  exact ok_nil
 replace hS:=SymF.fb hS hF [0] [⟨(p1 0).N,#[.bool g,.string s,.int .i64 x],23,true⟩] (by kernel_rfl) (by kernel_rfl)
 replace hG:=hF.gx
 clear hF
 have z8:=hS.fr.size
 refine wp_cond_false (hK.ev 40 (by kernel_rfl) _ (by kernel_rfl)) ?_
 refine wp_skip ?_
 refine then_n ?_
 refine wp_symG hS hG hK (fun p9=>[.v 51 (.string s),.v 52 (.string s),.v 53 (.int .i64 (s.size:Int)),.v 54 (.pointer (some ⟨(p1 0).N,2,none⟩)),.l 55 (.int .i64 x) 0 2,.v 56 (.int .i64 (m:Int)),.v 57 (.string a1),.v 58 (.string b1),.v 59 (.string s),.v 60 (.string s),.v 61 (.int .i64 (s.size:Int)),.v 62 (.pointer (some ⟨(p1 0).N,2,none⟩)),.l 63 (.int .i64 x) 0 2,.v 64 (.int .i64 (m:Int)),.v 65 (.string c1),.v 66 (.string d1),.v 5 (.string d1)]) (fun p9=>[(1,.pointer (some ⟨(p1 0).N,0,none⟩)),(2,.string { data:=#[] }),(3,.int .i64 0),(4,.int .i64 0),(5,.string d1),(9,.bool false),(12,.bool false),(24,.bool false),(29,.bool false),(40,.bool false)]) (by kernel_rfl) (fun _ _=>by kernel_rfl) (fun _=>by kernel_rfl) (fun _=>by kernel_rfl) (fun p9=>?_) (fun p9 W9 T hF hK=>?_)
 ·iterate 4 refine ok_v (by kernel_rfl) ?_
  refine ok_L (by kernel_rfl) (by kernel_rfl) (by kernel_rfl) ?_
  refine ok_vi ((wr64 (x:=(s.size:Int)+x) (by omega) (by omega)).trans (by omega)) (by kernel_rfl) ?_
  refine ok_vr (hto) (by kernel_rfl) ?_
  refine ok_vr (q1) (by kernel_rfl) ?_
  iterate 4 refine ok_v (by kernel_rfl) ?_
  refine ok_L (by kernel_rfl) (by kernel_rfl) (by kernel_rfl) ?_
  refine ok_vi ((wr64 (x:=(s.size:Int)+x) (by omega) (by omega)).trans (by omega)) (by kernel_rfl) ?_
  refine ok_vr (hfr) (by kernel_rfl) ?_
  refine ok_vr (q2) (by kernel_rfl) ?_
  refine ok_v (by kernel_rfl) ?_
  exact ok_nil
 replace hS:=SymF.fb hS hF [0] [⟨(p1 0).N,#[.bool g,.string s,.int .i64 x],23,true⟩] (by kernel_rfl) (by kernel_rfl)
 replace hG:=hF.gx
 clear hF
 have z9:=hS.fr.size
 refine then_n ?_
 refine wp_symQ hS hG hK (fun p10=>[.v 67 (.pointer (some ⟨(p1 0).N,0,none⟩)),.l 68 (.bool g) 0 0,.c (some 69) (cV (.string sg)),.v 70 (.string d1),.v 71 (.string t),.v 5 (.string t)]) (fun p10=>[(1,.pointer (some ⟨(p1 0).N,0,none⟩)),(2,.string { data:=#[] }),(3,.int .i64 0),(4,.int .i64 0),(5,.string t),(9,.bool false),(12,.bool false),(24,.bool false),(29,.bool false),(40,.bool false)]) (by kernel_rfl) (fun _ _=>by kernel_rfl) (fun _=>by kernel_rfl) (fun _=>by kernel_rfl) (fun p10=>?_) (fun p10 W10 T hF hK=>?_)
 ·refine ok_v (by kernel_rfl) ?_
  refine ok_L (by kernel_rfl) (by kernel_rfl) (by kernel_rfl) ?_
  refine ok_c (fun W cx=>as_v (unhide HN _)) (by kernel_rfl) ?_
  refine ok_v (by kernel_rfl) ?_
  refine ok_vr (q3) (by kernel_rfl) ?_
  refine ok_v (by kernel_rfl) ?_
  exact ok_nil
 replace hS:=SymF.fb hS hF [0] [⟨(p1 0).N,#[.bool g,.string s,.int .i64 x],23,true⟩] (by kernel_rfl) (by kernel_rfl)
 replace hG:=hF.gx
 clear hF
 have z10:=hS.fr.size
 refine wp_seq ?_
 refine wp_symQ hS hG hK (fun p11=>[.v 72 (.string t),.v 73 (.int .i64 (t.size:Int)),.v 74 (.bool false)]) (fun p11=>[(1,.pointer (some ⟨(p1 0).N,0,none⟩)),(2,.string { data:=#[] }),(3,.int .i64 0),(4,.int .i64 0),(5,.string t),(9,.bool false),(12,.bool false),(24,.bool false),(29,.bool false),(40,.bool false),(74,.bool false)]) (by kernel_rfl) (fun _ _=>by kernel_rfl) (fun _=>by kernel_rfl) (fun _=>by kernel_rfl) (fun p11=>?_) (fun p11 W11 T hF hK=>?_)
 ·iterate 2 refine ok_v (by kernel_rfl) ?_
  refine ok_vb (decide_eq_false (show ¬ (t.size:Int) > 65536 by omega)) (by kernel_rfl) ?_
  exact ok_nil
 replace hS:=SymF.fb hS hF [0] [⟨(p1 0).N,#[.bool g,.string s,.int .i64 x],23,true⟩] (by kernel_rfl) (by kernel_rfl)
 replace hG:=hF.gx
 clear hF
 have z11:=hS.fr.size
 refine wp_cond_false (hK.ev 74 (by kernel_rfl) _ (by kernel_rfl)) ?_
 refine wp_skip ?_
 refine then_n ?_
 refine wp_symQ hS hG hK (fun p12=>[.v 75 (.string t),.v 2 (.string t),.v 3 (.int .i64 0)]) (fun p12=>[(1,.pointer (some ⟨(p1 0).N,0,none⟩)),(2,.string t),(3,.int .i64 0),(4,.int .i64 0),(5,.string t),(9,.bool false),(12,.bool false),(24,.bool false),(29,.bool false),(40,.bool false),(74,.bool false)]) (by kernel_rfl) (fun _ _=>by kernel_rfl) (fun _=>by kernel_rfl) (fun _=>by kernel_rfl) (fun p12=>?_) (fun p12 W12 T hF hK=>?_)
 ·iterate 3 refine ok_v (by kernel_rfl) ?_
  exact ok_nil
 replace hS:=SymF.fb hS hF [0] [⟨(p1 0).N,#[.bool g,.string s,.int .i64 x],23,true⟩] (by kernel_rfl) (by kernel_rfl)
 replace hG:=hF.gx
 clear hF
 have z12:=hS.fr.size
 refine wp_ret ?_
 exact sym_end hS hK (.tuple #[.string t,.int .i64 0]) [] [] (by kernel_rfl) (by kernel_rfl) ⟨rfl,hS.fr⟩
theorem rpl_qo (w:World) (g:Bool) (s:ByteArray) (x:Int) (sg u a1 b1 c1 d1 t:ByteArray) (j m:Nat) (k:Nat) (hxj:x = -(j:Int)) (hj0:0 < j) (hj:j≤65536) (hsg:sg.size≤1) (hsm:s.size≤65536) (hk:s.size+k = j+1) (hjs:s.size≤j) (q0c:noS k ++ s = u) (hus:u.size = j+1) (hm:m+j = u.size) (ha1:u.extract 0 m = a1) (ha1s:a1.size≤131072) (q1c:a1 ++ (⟨#[46]⟩:ByteArray) = b1) (hb1s:b1.size≤131073) (hc1:u.extract m u.size = c1) (hc1s:c1.size≤131072) (q2c:b1 ++ c1 = d1) (hd1s:d1.size≤262145) (q3c:sg ++ d1 = t) (ht:t.size≤65536) (hz:s.size≠0) (HC:Hid (∀ W:World,Calls Tryd.prog 14 #[.agg #[.bool g,.string s,.int .i64 x]] W fun e W'=>e = .returned (.int .i64 0)∧Below W.heap.size W W')) (HN:Hid (∀ W:World,Calls Tryd.prog 16 #[.bool g] W fun e W'=>e = .returned (.string sg)∧Below W.heap.size W W'))  :
  Calls Tryd.prog 5 #[.agg #[.bool g,.string s,.int .i64 x]] w fun en w'=>en = .returned (.tuple #[.string t,.int .i64 0])∧Below w.heap.size w w':=by
 have ek:(noS k).size = k:=size_noS k
 have q0:script Tryd.prog 0 (Op.stringOp .add (noS k) s) [] = some (.string u,[]):=by rw [← q0c]; exact script_cat (by omega)
 have e46:(⟨#[46]⟩:ByteArray).size = 1:=rfl
 have hto:script Tryd.prog 0 (Instr.sliceAt 9 (.string u) none (some (.int .i64 (m:Int))) none) [] = some (.string a1,[]):=by rw [← ha1]; exact script_to Tryd.under_str (by omega) (by omega)
 have hfr:script Tryd.prog 0 (Instr.sliceAt 9 (.string u) (some (.int .i64 (m:Int))) none none) [] = some (.string c1,[]):=by rw [← hc1]; exact script_from Tryd.under_str (by omega) (by omega)
 have q1:script Tryd.prog 0 (Op.stringOp .add a1 ⟨#[46]⟩) [] = some (.string b1,[]):=by rw [← q1c]; exact script_cat (by omega)
 have q2:script Tryd.prog 0 (Op.stringOp .add b1 c1) [] = some (.string d1,[]):=by rw [← q2c]; exact script_cat (by omega)
 have q3:script Tryd.prog 0 (Op.stringOp .add sg d1) [] = some (.string t,[]):=by rw [← q3c]; exact script_cat (by omega)
 refine calls_sym Tryd.func5 rfl (by kernel_rfl) fun T hK=>?_
 replace hK:Kn T _ [(0,.agg #[.bool g,.string s,.int .i64 x])]:=hK
 have hS:=Fb.begin w
 have hG:GsAt [] w:=trivial
 refine wp_symQ hS hG hK (fun p1=>[.n 1 #[.bool g,.string s,.int .i64 x] 23,.v 2 (.string { data:=#[] }),.v 3 (.int .i64 0)]) (fun p1=>[(1,.pointer (some ⟨(p1 0).N,0,none⟩)),(2,.string { data:=#[] }),(3,.int .i64 0)]) (by kernel_rfl) (fun _ _=>by kernel_rfl) (fun _=>by kernel_rfl) (fun _=>by kernel_rfl) (fun p1=>?_) (fun p1 W1 T hF hK=>?_)
 ·refine ok_n (fun _=>by kernel_rfl) ?_
  iterate 2 refine ok_v (by kernel_rfl) ?_
  exact ok_nil
 replace hS:=SymF.fb hS hF [1000] [⟨(p1 0).N,#[.bool g,.string s,.int .i64 x],23,true⟩] (by kernel_rfl) (by kernel_rfl)
 replace hG:=hF.gx
 clear hF
 have z1:=hS.fr.size
 refine wp_symQ hS hG hK (fun p2=>[.l 6 (.agg #[.bool g,.string s,.int .i64 x]) 0 0,.c (some 7) (cV (.int .i64 0)),.v 4 (.int .i64 0)]) (fun p2=>[(1,.pointer (some ⟨(p1 0).N,0,none⟩)),(2,.string { data:=#[] }),(3,.int .i64 0),(4,.int .i64 0)]) (by kernel_rfl) (fun _ _=>by kernel_rfl) (fun _=>by kernel_rfl) (fun _=>by kernel_rfl) (fun p2=>?_) (fun p2 W2 T hF hK=>?_)
 ·refine ok_L (by kernel_rfl) (by kernel_rfl) (by kernel_rfl) ?_
  refine ok_c (fun W cx=>as_v (unhide HC _)) (by kernel_rfl) ?_
  refine ok_v (by kernel_rfl) ?_
  exact ok_nil
 replace hS:=SymF.fb hS hF [0] [⟨(p1 0).N,#[.bool g,.string s,.int .i64 x],23,true⟩] (by kernel_rfl) (by kernel_rfl)
 replace hG:=hF.gx
 clear hF
 have z2:=hS.fr.size
 refine wp_seq ?_
 refine wp_symQ hS hG hK (fun p3=>[.v 8 (.int .i64 0),.v 9 (.bool false)]) (fun p3=>[(1,.pointer (some ⟨(p1 0).N,0,none⟩)),(2,.string { data:=#[] }),(3,.int .i64 0),(4,.int .i64 0),(9,.bool false)]) (by kernel_rfl) (fun _ _=>by kernel_rfl) (fun _=>by kernel_rfl) (fun _=>by kernel_rfl) (fun p3=>?_) (fun p3 W3 T hF hK=>?_)
 ·iterate 2 refine ok_v (by kernel_rfl) ?_
  exact ok_nil
 replace hS:=SymF.fb hS hF [0] [⟨(p1 0).N,#[.bool g,.string s,.int .i64 x],23,true⟩] (by kernel_rfl) (by kernel_rfl)
 replace hG:=hF.gx
 clear hF
 have z3:=hS.fr.size
 refine wp_cond_false (hK.ev 9 (by kernel_rfl) _ (by kernel_rfl)) ?_
 refine wp_skip ?_
 refine then_n ?_
 refine wp_seq ?_
 refine wp_symQ hS hG hK (fun p4=>[.l 11 (.agg #[.bool g,.string s,.int .i64 x]) 0 0,.c (some 12) (cV (.bool false))]) (fun p4=>[(1,.pointer (some ⟨(p1 0).N,0,none⟩)),(2,.string { data:=#[] }),(3,.int .i64 0),(4,.int .i64 0),(9,.bool false),(12,.bool false)]) (by kernel_rfl) (fun _ _=>by kernel_rfl) (fun _=>by kernel_rfl) (fun _=>by kernel_rfl) (fun p4=>?_) (fun p4 W4 T hF hK=>?_)
 ·refine ok_L (by kernel_rfl) (by kernel_rfl) (by kernel_rfl) ?_
  refine ok_c (fun W cx=>as_v (rnone_f _ g s x hz)) (by kernel_rfl) ?_
  exact ok_nil
 replace hS:=SymF.fb hS hF [0] [⟨(p1 0).N,#[.bool g,.string s,.int .i64 x],23,true⟩] (by kernel_rfl) (by kernel_rfl)
 replace hG:=hF.gx
 clear hF
 have z4:=hS.fr.size
 refine wp_cond_false (hK.ev 12 (by kernel_rfl) _ (by kernel_rfl)) ?_
 refine wp_skip ?_
 refine then_n ?_
 refine wp_seq ?_
 refine wp_symQ hS hG hK (fun p5=>[.v 17 (.pointer (some ⟨(p1 0).N,2,none⟩)),.l 18 (.int .i64 x) 0 2,.v 19 (.bool false),.v 20 (.bool false),.v 21 (.pointer (some ⟨(p1 0).N,2,none⟩)),.l 22 (.int .i64 x) 0 2,.v 23 (.bool false),.v 24 (.bool false)]) (fun p5=>[(1,.pointer (some ⟨(p1 0).N,0,none⟩)),(2,.string { data:=#[] }),(3,.int .i64 0),(4,.int .i64 0),(9,.bool false),(12,.bool false),(24,.bool false)]) (by kernel_rfl) (fun _ _=>by kernel_rfl) (fun _=>by kernel_rfl) (fun _=>by kernel_rfl) (fun p5=>?_) (fun p5 W5 T hF hK=>?_)
 ·refine ok_v (by kernel_rfl) ?_
  refine ok_L (by kernel_rfl) (by kernel_rfl) (by kernel_rfl) ?_
  refine ok_vb (decide_eq_false (show ¬ x > 65536 by omega)) (by kernel_rfl) ?_
  iterate 2 refine ok_v (by kernel_rfl) ?_
  refine ok_L (by kernel_rfl) (by kernel_rfl) (by kernel_rfl) ?_
  refine ok_vb (decide_eq_false (show ¬ x < -65536 by omega)) (by kernel_rfl) ?_
  refine ok_v (by kernel_rfl) ?_
  exact ok_nil
 replace hS:=SymF.fb hS hF [0] [⟨(p1 0).N,#[.bool g,.string s,.int .i64 x],23,true⟩] (by kernel_rfl) (by kernel_rfl)
 replace hG:=hF.gx
 clear hF
 have z5:=hS.fr.size
 refine wp_cond_false (hK.ev 24 (by kernel_rfl) _ (by kernel_rfl)) ?_
 refine wp_skip ?_
 refine then_n ?_
 refine wp_symQ hS hG hK (fun p6=>[.v 25 (.pointer (some ⟨(p1 0).N,1,none⟩)),.l 26 (.string s) 0 1,.v 5 (.string s)]) (fun p6=>[(1,.pointer (some ⟨(p1 0).N,0,none⟩)),(2,.string { data:=#[] }),(3,.int .i64 0),(4,.int .i64 0),(5,.string s),(9,.bool false),(12,.bool false),(24,.bool false)]) (by kernel_rfl) (fun _ _=>by kernel_rfl) (fun _=>by kernel_rfl) (fun _=>by kernel_rfl) (fun p6=>?_) (fun p6 W6 T hF hK=>?_)
 ·refine ok_v (by kernel_rfl) ?_
  refine ok_L (by kernel_rfl) (by kernel_rfl) (by kernel_rfl) ?_
  refine ok_v (by kernel_rfl) ?_
  exact ok_nil
 replace hS:=SymF.fb hS hF [0] [⟨(p1 0).N,#[.bool g,.string s,.int .i64 x],23,true⟩] (by kernel_rfl) (by kernel_rfl)
 replace hG:=hF.gx
 clear hF
 have z6:=hS.fr.size
 refine wp_seq ?_
 refine wp_symQ hS hG hK (fun p7=>[.v 27 (.pointer (some ⟨(p1 0).N,2,none⟩)),.l 28 (.int .i64 x) 0 2,.v 29 (.bool false)]) (fun p7=>[(1,.pointer (some ⟨(p1 0).N,0,none⟩)),(2,.string { data:=#[] }),(3,.int .i64 0),(4,.int .i64 0),(5,.string s),(9,.bool false),(12,.bool false),(24,.bool false),(29,.bool false)]) (by kernel_rfl) (fun _ _=>by kernel_rfl) (fun _=>by kernel_rfl) (fun _=>by kernel_rfl) (fun p7=>?_) (fun p7 W7 T hF hK=>?_)
 ·refine ok_v (by kernel_rfl) ?_
  refine ok_L (by kernel_rfl) (by kernel_rfl) (by kernel_rfl) ?_
  refine ok_vb (decide_eq_false (show ¬ x ≥ 0 by omega)) (by kernel_rfl) ?_
  exact ok_nil
 replace hS:=SymF.fb hS hF [0] [⟨(p1 0).N,#[.bool g,.string s,.int .i64 x],23,true⟩] (by kernel_rfl) (by kernel_rfl)
 replace hG:=hF.gx
 clear hF
 have z7:=hS.fr.size
 refine wp_cond_false (hK.ev 29 (by kernel_rfl) _ (by kernel_rfl)) ?_
 refine wp_seq ?_
 refine wp_symQ hS hG hK (fun p8=>[.v 35 (.string s),.v 36 (.int .i64 (s.size:Int)),.v 37 (.pointer (some ⟨(p1 0).N,2,none⟩)),.l 38 (.int .i64 x) 0 2,.v 39 (.int .i64 (j:Int)),.v 40 (.bool true)]) (fun p8=>[(1,.pointer (some ⟨(p1 0).N,0,none⟩)),(2,.string { data:=#[] }),(3,.int .i64 0),(4,.int .i64 0),(5,.string s),(9,.bool false),(12,.bool false),(24,.bool false),(29,.bool false),(40,.bool true)]) (by kernel_rfl) (fun _ _=>by kernel_rfl) (fun _=>by kernel_rfl) (fun _=>by kernel_rfl) (fun p8=>?_) (fun p8 W8 T hF hK=>?_)
 ·iterate 3 refine ok_v (by kernel_rfl) ?_
  refine ok_L (by kernel_rfl) (by kernel_rfl) (by kernel_rfl) ?_
  refine ok_vi ((wr64 (x:=0 - x) (by omega) (by omega)).trans (by omega)) (by kernel_rfl) ?_
  refine ok_vb (decide_eq_true (show (s.size:Int)≤(j:Int) by omega)) (by kernel_rfl) ?_
  exact ok_nil
 replace hS:=SymF.fb hS hF [0] [⟨(p1 0).N,#[.bool g,.string s,.int .i64 x],23,true⟩] (by kernel_rfl) (by kernel_rfl)
 replace hG:=hF.gx
 clear hF
 have z8:=hS.fr.size
 refine wp_cond_true (hK.ev 40 (by kernel_rfl) _ (by kernel_rfl)) ?_
 refine wp_symG hS hG hK (fun p9=>[.v 41 (.pointer (some ⟨(p1 0).N,2,none⟩)),.l 42 (.int .i64 x) 0 2,.v 43 (.int .i64 (j:Int)),.v 44 (.int .i64 ((j:Int)+1)),.v 45 (.string s),.v 46 (.int .i64 (s.size:Int)),.v 47 (.int .i64 (k:Int)),.c (some 48) (cV (.string (noS k))),.v 49 (.string s),.v 50 (.string u),.v 5 (.string u)]) (fun p9=>[(1,.pointer (some ⟨(p1 0).N,0,none⟩)),(2,.string { data:=#[] }),(3,.int .i64 0),(4,.int .i64 0),(5,.string u),(9,.bool false),(12,.bool false),(24,.bool false),(29,.bool false),(40,.bool true)]) (by kernel_rfl) (fun _ _=>by kernel_rfl) (fun _=>by kernel_rfl) (fun _=>by kernel_rfl) (fun p9=>?_) (fun p9 W9 T hF hK=>?_)
 ·refine ok_v (by kernel_rfl) ?_
  refine ok_L (by kernel_rfl) (by kernel_rfl) (by kernel_rfl) ?_
  refine ok_vi ((wr64 (x:=0 - x) (by omega) (by omega)).trans (by omega)) (by kernel_rfl) ?_
  refine ok_vi (wr64 (x:=(j:Int)+1) (by omega) (by omega)) (by kernel_rfl) ?_
  iterate 2 refine ok_v (by kernel_rfl) ?_
  refine ok_vi ((wr64 (x:=(j:Int)+1 - (s.size:Int)) (by omega) (by omega)).trans (by omega)) (by kernel_rfl) ?_
  refine ok_c (fun W cx=>as_v (rnoughts_any k (by omega) _)) (by kernel_rfl) ?_
  refine ok_v (by kernel_rfl) ?_
  refine ok_vr (q0) (by kernel_rfl) ?_
  refine ok_v (by kernel_rfl) ?_
  exact ok_nil
 replace hS:=SymF.fb hS hF [0] [⟨(p1 0).N,#[.bool g,.string s,.int .i64 x],23,true⟩] (by kernel_rfl) (by kernel_rfl)
 replace hG:=hF.gx
 clear hF
 have z9:=hS.fr.size
 refine then_n ?_
 refine wp_symG hS hG hK (fun p10=>[.v 51 (.string u),.v 52 (.string u),.v 53 (.int .i64 (u.size:Int)),.v 54 (.pointer (some ⟨(p1 0).N,2,none⟩)),.l 55 (.int .i64 x) 0 2,.v 56 (.int .i64 (m:Int)),.v 57 (.string a1),.v 58 (.string b1),.v 59 (.string u),.v 60 (.string u),.v 61 (.int .i64 (u.size:Int)),.v 62 (.pointer (some ⟨(p1 0).N,2,none⟩)),.l 63 (.int .i64 x) 0 2,.v 64 (.int .i64 (m:Int)),.v 65 (.string c1),.v 66 (.string d1),.v 5 (.string d1)]) (fun p10=>[(1,.pointer (some ⟨(p1 0).N,0,none⟩)),(2,.string { data:=#[] }),(3,.int .i64 0),(4,.int .i64 0),(5,.string d1),(9,.bool false),(12,.bool false),(24,.bool false),(29,.bool false),(40,.bool true)]) (by kernel_rfl) (fun _ _=>by kernel_rfl) (fun _=>by kernel_rfl) (fun _=>by kernel_rfl) (fun p10=>?_) (fun p10 W10 T hF hK=>?_)
 ·iterate 4 refine ok_v (by kernel_rfl) ?_
  refine ok_L (by kernel_rfl) (by kernel_rfl) (by kernel_rfl) ?_
  refine ok_vi ((wr64 (x:=(u.size:Int)+x) (by omega) (by omega)).trans (by omega)) (by kernel_rfl) ?_
  refine ok_vr (hto) (by kernel_rfl) ?_
  refine ok_vr (q1) (by kernel_rfl) ?_
  iterate 4 refine ok_v (by kernel_rfl) ?_
  refine ok_L (by kernel_rfl) (by kernel_rfl) (by kernel_rfl) ?_
  refine ok_vi ((wr64 (x:=(u.size:Int)+x) (by omega) (by omega)).trans (by omega)) (by kernel_rfl) ?_
  refine ok_vr (hfr) (by kernel_rfl) ?_
  refine ok_vr (q2) (by kernel_rfl) ?_
  refine ok_v (by kernel_rfl) ?_
  exact ok_nil
 replace hS:=SymF.fb hS hF [0] [⟨(p1 0).N,#[.bool g,.string s,.int .i64 x],23,true⟩] (by kernel_rfl) (by kernel_rfl)
 replace hG:=hF.gx
 clear hF
 have z10:=hS.fr.size
 refine then_n ?_
 refine wp_symQ hS hG hK (fun p11=>[.v 67 (.pointer (some ⟨(p1 0).N,0,none⟩)),.l 68 (.bool g) 0 0,.c (some 69) (cV (.string sg)),.v 70 (.string d1),.v 71 (.string t),.v 5 (.string t)]) (fun p11=>[(1,.pointer (some ⟨(p1 0).N,0,none⟩)),(2,.string { data:=#[] }),(3,.int .i64 0),(4,.int .i64 0),(5,.string t),(9,.bool false),(12,.bool false),(24,.bool false),(29,.bool false),(40,.bool true)]) (by kernel_rfl) (fun _ _=>by kernel_rfl) (fun _=>by kernel_rfl) (fun _=>by kernel_rfl) (fun p11=>?_) (fun p11 W11 T hF hK=>?_)
 ·refine ok_v (by kernel_rfl) ?_
  refine ok_L (by kernel_rfl) (by kernel_rfl) (by kernel_rfl) ?_
  refine ok_c (fun W cx=>as_v (unhide HN _)) (by kernel_rfl) ?_
  refine ok_v (by kernel_rfl) ?_
  refine ok_vr (q3) (by kernel_rfl) ?_
  refine ok_v (by kernel_rfl) ?_
  exact ok_nil
 replace hS:=SymF.fb hS hF [0] [⟨(p1 0).N,#[.bool g,.string s,.int .i64 x],23,true⟩] (by kernel_rfl) (by kernel_rfl)
 replace hG:=hF.gx
 clear hF
 have z11:=hS.fr.size
 refine wp_seq ?_
 refine wp_symQ hS hG hK (fun p12=>[.v 72 (.string t),.v 73 (.int .i64 (t.size:Int)),.v 74 (.bool false)]) (fun p12=>[(1,.pointer (some ⟨(p1 0).N,0,none⟩)),(2,.string { data:=#[] }),(3,.int .i64 0),(4,.int .i64 0),(5,.string t),(9,.bool false),(12,.bool false),(24,.bool false),(29,.bool false),(40,.bool true),(74,.bool false)]) (by kernel_rfl) (fun _ _=>by kernel_rfl) (fun _=>by kernel_rfl) (fun _=>by kernel_rfl) (fun p12=>?_) (fun p12 W12 T hF hK=>?_)
 ·iterate 2 refine ok_v (by kernel_rfl) ?_
  refine ok_vb (decide_eq_false (show ¬ (t.size:Int) > 65536 by omega)) (by kernel_rfl) ?_
  exact ok_nil
 replace hS:=SymF.fb hS hF [0] [⟨(p1 0).N,#[.bool g,.string s,.int .i64 x],23,true⟩] (by kernel_rfl) (by kernel_rfl)
 replace hG:=hF.gx
 clear hF
 have z12:=hS.fr.size
 refine wp_cond_false (hK.ev 74 (by kernel_rfl) _ (by kernel_rfl)) ?_
 refine wp_skip ?_
 refine then_n ?_
 refine wp_symQ hS hG hK (fun p13=>[.v 75 (.string t),.v 2 (.string t),.v 3 (.int .i64 0)]) (fun p13=>[(1,.pointer (some ⟨(p1 0).N,0,none⟩)),(2,.string t),(3,.int .i64 0),(4,.int .i64 0),(5,.string t),(9,.bool false),(12,.bool false),(24,.bool false),(29,.bool false),(40,.bool true),(74,.bool false)]) (by kernel_rfl) (fun _ _=>by kernel_rfl) (fun _=>by kernel_rfl) (fun _=>by kernel_rfl) (fun p13=>?_) (fun p13 W13 T hF hK=>?_)
 ·iterate 3 refine ok_v (by kernel_rfl) ?_
  exact ok_nil
 replace hS:=SymF.fb hS hF [0] [⟨(p1 0).N,#[.bool g,.string s,.int .i64 x],23,true⟩] (by kernel_rfl) (by kernel_rfl)
 replace hG:=hF.gx
 clear hF
 have z13:=hS.fr.size
 refine wp_ret ?_
 exact sym_end hS hK (.tuple #[.string t,.int .i64 0]) [] [] (by kernel_rfl) (by kernel_rfl) ⟨rfl,hS.fr⟩
theorem rwh_n (w:World) (n:Int) (m:Nat) (sg t u:ByteArray) (hn0:-2147483648≤n) (hn1:n≤2147483648) (hm:n = -(m:Int)) (hts:t.size≤100) (hss:sg.size≤1) (q1c:sg ++ t = u) (hneg:n < 0) (HO:Hid (∀ W:World,Calls Tryd.prog 31 #[.int .u64 (m:Int)] W fun en W'=>(∃ a n c,en = .returned (.agg #[.slice a n c])∧Mine W' W.heap.size a n c m)∧Below W.heap.size W W')) (HT:Hid (∀ (W:World) (a:Option Addr) (n c:Nat),Num W a n m→Calls Tryd.prog 30 #[.agg #[.slice a n c]] W fun en W'=>en = .returned (.tuple #[.string t,.int .i64 0])∧Below W.heap.size W W')) (HN:Hid (∀ W:World,Calls Tryd.prog 16 #[.bool true] W fun e W'=>e = .returned (.string sg)∧Below W.heap.size W W')) :
  Calls Tryd.prog 19 #[.int .i64 n] w fun en w'=>en = .returned (.string u)∧Below w.heap.size w w':=by
 have q1:script Tryd.prog 0 (Op.stringOp .add sg t) [] = some (.string u,[]):=by rw [← q1c]; exact script_cat (by omega)
 have hmx:max n (-n) = (m:Int):=by omega
 have hcv:IntKind.wrap .u64 (m:Int) = (m:Int):=by rw [IntKind.wrap_u64]; omega
 refine calls_sym Tryd.func19 rfl (by kernel_rfl) fun T hK=>?_
 replace hK:Kn T _ [(0,.int .i64 n)]:=hK
 have hS:=Fb.begin w
 have hG:GsAt [] w:=trivial
 refine wp_symQ hS hG hK (fun p1=>[.v 2 (.string { data:=#[] })]) (fun p1=>[(0,.int .i64 n),(2,.string { data:=#[] })]) (by kernel_rfl) (fun _ _=>by kernel_rfl) (fun _=>by kernel_rfl) (fun _=>by kernel_rfl) (fun p1=>?_) (fun p1 W1 T hF hK=>?_)
 ·refine ok_v (by kernel_rfl) ?_
  exact ok_nil
 replace hS:=SymF.fb hS hF [] [] (by kernel_rfl) (by kernel_rfl)
 replace hG:=hF.gx
 clear hF
 have z1:=hS.fr.size
 refine wp_symQ hS hG hK (fun p2=>[.v 6 (.int .i64 n),.v 7 (.int .i64 n),.v 8 (.int .i64 (-n)),.v 9 (.int .i64 (m:Int)),.v 10 (.int .u64 (m:Int)),.c (some 11) (cN W1.heap.size m),.c (some 12) (cV (.tuple #[.string t,.int .i64 0])),.v 5 (.tuple #[.string t,.int .i64 0]),.v 13 (.string t),.v 14 (.int .i64 0),.v 3 (.string t),.v 4 (.int .i64 0)]) (fun p2=>[(0,.int .i64 n),(2,.string { data:=#[] }),(3,.string t)]) (by kernel_rfl) (fun _ _=>by kernel_rfl) (fun _=>by kernel_rfl) (fun _=>by kernel_rfl) (fun p2=>?_) (fun p2 W2 T hF hK=>?_)
 ·iterate 2 refine ok_v (by kernel_rfl) ?_
  refine ok_vi ((wr64 (x:=0 - n) (by omega) (by omega)).trans (by omega)) (by kernel_rfl) ?_
  refine ok_vi ((imax _ _).trans hmx) (by kernel_rfl) ?_
  refine ok_vi (hcv) (by kernel_rfl) ?_
  refine ok_c (fun W cx=>as_n cx.hb (unhide HO _)) (by kernel_rfl) ?_
  refine ok_c (fun W cx=>as_v (unhide HT _ _ _ (p2 5).C (Mine.num (cx.F 5 (by kernel_rfl))))) (by kernel_rfl) ?_
  iterate 5 refine ok_v (by kernel_rfl) ?_
  exact ok_nil
 replace hS:=SymF.fb hS hF [] [] (by kernel_rfl) (by kernel_rfl)
 replace hG:GsAt (gM W1.heap.size (p2 5).A (p2 5).N (p2 5).C m :: _) W2:=⟨hF.fx 5,hF.gx⟩
 clear hF
 have z2:=hS.fr.size
 refine wp_symQ hS hG hK (fun p3=>[.v 15 (.int .i64 n),.v 16 (.bool true),.c (some 17) (cV (.string sg)),.v 18 (.string t),.v 19 (.string u),.v 2 (.string u)]) (fun p3=>[(2,.string u)]) (by kernel_rfl) (fun _ _=>by kernel_rfl) (fun _=>by kernel_rfl) (fun _=>by kernel_rfl) (fun p3=>?_) (fun p3 W3 T hF hK=>?_)
 ·refine ok_v (by kernel_rfl) ?_
  refine ok_vb (decide_eq_true (show n < 0 by omega)) (by kernel_rfl) ?_
  refine ok_c (fun W cx=>as_v (unhide HN _)) (by kernel_rfl) ?_
  refine ok_v (by kernel_rfl) ?_
  refine ok_vr (q1) (by kernel_rfl) ?_
  refine ok_v (by kernel_rfl) ?_
  exact ok_nil
 replace hS:=SymF.fb hS hF [] [] (by kernel_rfl) (by kernel_rfl)
 replace hG:=hF.gx
 clear hF
 have z3:=hS.fr.size
 refine wp_ret ?_
 exact sym_end hS hK (.string u) [] [] (by kernel_rfl) (by kernel_rfl) ⟨rfl,hS.fr⟩
theorem rwh_p (w:World) (n:Int) (m:Nat) (sg t u:ByteArray) (hn0:-2147483648≤n) (hn1:n≤2147483648) (hm:n = (m:Int)) (hts:t.size≤100) (hss:sg.size≤1) (q1c:sg ++ t = u) (HO:Hid (∀ W:World,Calls Tryd.prog 31 #[.int .u64 (m:Int)] W fun en W'=>(∃ a n c,en = .returned (.agg #[.slice a n c])∧Mine W' W.heap.size a n c m)∧Below W.heap.size W W')) (HT:Hid (∀ (W:World) (a:Option Addr) (n c:Nat),Num W a n m→Calls Tryd.prog 30 #[.agg #[.slice a n c]] W fun en W'=>en = .returned (.tuple #[.string t,.int .i64 0])∧Below W.heap.size W W')) (HN:Hid (∀ W:World,Calls Tryd.prog 16 #[.bool false] W fun e W'=>e = .returned (.string sg)∧Below W.heap.size W W')) :
  Calls Tryd.prog 19 #[.int .i64 n] w fun en w'=>en = .returned (.string u)∧Below w.heap.size w w':=by
 have q1:script Tryd.prog 0 (Op.stringOp .add sg t) [] = some (.string u,[]):=by rw [← q1c]; exact script_cat (by omega)
 have hmx:max n (-n) = (m:Int):=by omega
 have hcv:IntKind.wrap .u64 (m:Int) = (m:Int):=by rw [IntKind.wrap_u64]; omega
 refine calls_sym Tryd.func19 rfl (by kernel_rfl) fun T hK=>?_
 replace hK:Kn T _ [(0,.int .i64 n)]:=hK
 have hS:=Fb.begin w
 have hG:GsAt [] w:=trivial
 refine wp_symQ hS hG hK (fun p1=>[.v 2 (.string { data:=#[] })]) (fun p1=>[(0,.int .i64 n),(2,.string { data:=#[] })]) (by kernel_rfl) (fun _ _=>by kernel_rfl) (fun _=>by kernel_rfl) (fun _=>by kernel_rfl) (fun p1=>?_) (fun p1 W1 T hF hK=>?_)
 ·refine ok_v (by kernel_rfl) ?_
  exact ok_nil
 replace hS:=SymF.fb hS hF [] [] (by kernel_rfl) (by kernel_rfl)
 replace hG:=hF.gx
 clear hF
 have z1:=hS.fr.size
 refine wp_symQ hS hG hK (fun p2=>[.v 6 (.int .i64 n),.v 7 (.int .i64 n),.v 8 (.int .i64 (-n)),.v 9 (.int .i64 (m:Int)),.v 10 (.int .u64 (m:Int)),.c (some 11) (cN W1.heap.size m),.c (some 12) (cV (.tuple #[.string t,.int .i64 0])),.v 5 (.tuple #[.string t,.int .i64 0]),.v 13 (.string t),.v 14 (.int .i64 0),.v 3 (.string t),.v 4 (.int .i64 0)]) (fun p2=>[(0,.int .i64 n),(2,.string { data:=#[] }),(3,.string t)]) (by kernel_rfl) (fun _ _=>by kernel_rfl) (fun _=>by kernel_rfl) (fun _=>by kernel_rfl) (fun p2=>?_) (fun p2 W2 T hF hK=>?_)
 ·iterate 2 refine ok_v (by kernel_rfl) ?_
  refine ok_vi ((wr64 (x:=0 - n) (by omega) (by omega)).trans (by omega)) (by kernel_rfl) ?_
  refine ok_vi ((imax _ _).trans hmx) (by kernel_rfl) ?_
  refine ok_vi (hcv) (by kernel_rfl) ?_
  refine ok_c (fun W cx=>as_n cx.hb (unhide HO _)) (by kernel_rfl) ?_
  refine ok_c (fun W cx=>as_v (unhide HT _ _ _ (p2 5).C (Mine.num (cx.F 5 (by kernel_rfl))))) (by kernel_rfl) ?_
  iterate 5 refine ok_v (by kernel_rfl) ?_
  exact ok_nil
 replace hS:=SymF.fb hS hF [] [] (by kernel_rfl) (by kernel_rfl)
 replace hG:GsAt (gM W1.heap.size (p2 5).A (p2 5).N (p2 5).C m :: _) W2:=⟨hF.fx 5,hF.gx⟩
 clear hF
 have z2:=hS.fr.size
 refine wp_symQ hS hG hK (fun p3=>[.v 15 (.int .i64 n),.v 16 (.bool false),.c (some 17) (cV (.string sg)),.v 18 (.string t),.v 19 (.string u),.v 2 (.string u)]) (fun p3=>[(2,.string u)]) (by kernel_rfl) (fun _ _=>by kernel_rfl) (fun _=>by kernel_rfl) (fun _=>by kernel_rfl) (fun p3=>?_) (fun p3 W3 T hF hK=>?_)
 ·refine ok_v (by kernel_rfl) ?_
  refine ok_vb (decide_eq_false (show ¬ n < 0 by omega)) (by kernel_rfl) ?_
  refine ok_c (fun W cx=>as_v (unhide HN _)) (by kernel_rfl) ?_
  refine ok_v (by kernel_rfl) ?_
  refine ok_vr (q1) (by kernel_rfl) ?_
  refine ok_v (by kernel_rfl) ?_
  exact ok_nil
 replace hS:=SymF.fb hS hF [] [] (by kernel_rfl) (by kernel_rfl)
 replace hG:=hF.gx
 clear hF
 have z3:=hS.fr.size
 refine wp_ret ?_
 exact sym_end hS hK (.string u) [] [] (by kernel_rfl) (by kernel_rfl) ⟨rfl,hS.fr⟩
theorem rsc_e (w:World) (g:Bool) (s:ByteArray) (x:Int) (e1:Int) (he:e1≠0) (HC:Hid (∀ W:World,Calls Tryd.prog 14 #[.agg #[.bool g,.string s,.int .i64 x]] W fun e W'=>e = .returned (.int .i64 e1)∧Below W.heap.size W W')) :
  Calls Tryd.prog 7 #[.agg #[.bool g,.string s,.int .i64 x]] w fun en w'=>en = .returned (.tuple #[.string ⟨#[]⟩,.int .i64 e1])∧Below w.heap.size w w':=by
 refine calls_sym Tryd.func7 rfl (by kernel_rfl) fun T hK=>?_
 replace hK:Kn T _ [(0,.agg #[.bool g,.string s,.int .i64 x])]:=hK
 have hS:=Fb.begin w
 have hG:GsAt [] w:=trivial
 refine wp_symQ hS hG hK (fun p1=>[.n 1 #[.bool g,.string s,.int .i64 x] 23,.v 2 (.string { data:=#[] }),.v 3 (.int .i64 0)]) (fun p1=>[(1,.pointer (some ⟨(p1 0).N,0,none⟩)),(2,.string { data:=#[] }),(3,.int .i64 0)]) (by kernel_rfl) (fun _ _=>by kernel_rfl) (fun _=>by kernel_rfl) (fun _=>by kernel_rfl) (fun p1=>?_) (fun p1 W1 T hF hK=>?_)
 ·refine ok_n (fun _=>by kernel_rfl) ?_
  iterate 2 refine ok_v (by kernel_rfl) ?_
  exact ok_nil
 replace hS:=SymF.fb hS hF [1000] [⟨(p1 0).N,#[.bool g,.string s,.int .i64 x],23,true⟩] (by kernel_rfl) (by kernel_rfl)
 replace hG:=hF.gx
 clear hF
 have z1:=hS.fr.size
 refine wp_symQ hS hG hK (fun p2=>[.l 6 (.agg #[.bool g,.string s,.int .i64 x]) 0 0,.c (some 7) (cV (.int .i64 e1)),.v 4 (.int .i64 e1)]) (fun p2=>[(1,.pointer (some ⟨(p1 0).N,0,none⟩)),(2,.string { data:=#[] }),(3,.int .i64 0),(4,.int .i64 e1)]) (by kernel_rfl) (fun _ _=>by kernel_rfl) (fun _=>by kernel_rfl) (fun _=>by kernel_rfl) (fun p2=>?_) (fun p2 W2 T hF hK=>?_)
 ·refine ok_L (by kernel_rfl) (by kernel_rfl) (by kernel_rfl) ?_
  refine ok_c (fun W cx=>as_v (unhide HC _)) (by kernel_rfl) ?_
  refine ok_v (by kernel_rfl) ?_
  exact ok_nil
 replace hS:=SymF.fb hS hF [0] [⟨(p1 0).N,#[.bool g,.string s,.int .i64 x],23,true⟩] (by kernel_rfl) (by kernel_rfl)
 replace hG:=hF.gx
 clear hF
 have z2:=hS.fr.size
 refine wp_seq ?_
 refine wp_symQ hS hG hK (fun p3=>[.v 8 (.int .i64 e1),.v 9 (.bool true)]) (fun p3=>[(1,.pointer (some ⟨(p1 0).N,0,none⟩)),(2,.string { data:=#[] }),(3,.int .i64 0),(4,.int .i64 e1),(9,.bool true)]) (by kernel_rfl) (fun _ _=>by kernel_rfl) (fun _=>by kernel_rfl) (fun _=>by kernel_rfl) (fun p3=>?_) (fun p3 W3 T hF hK=>?_)
 ·refine ok_v (by kernel_rfl) ?_
  refine ok_vb (bne_iff_ne.2 he) (by kernel_rfl) ?_
  exact ok_nil
 replace hS:=SymF.fb hS hF [0] [⟨(p1 0).N,#[.bool g,.string s,.int .i64 x],23,true⟩] (by kernel_rfl) (by kernel_rfl)
 replace hG:=hF.gx
 clear hF
 have z3:=hS.fr.size
 refine wp_cond_true (hK.ev 9 (by kernel_rfl) _ (by kernel_rfl)) ?_
 refine wp_symQ hS hG hK (fun p4=>[.v 10 (.int .i64 e1),.v 2 (.string { data:=#[] }),.v 3 (.int .i64 e1)]) (fun p4=>[(1,.pointer (some ⟨(p1 0).N,0,none⟩)),(2,.string { data:=#[] }),(3,.int .i64 e1),(9,.bool true)]) (by kernel_rfl) (fun _ _=>by kernel_rfl) (fun _=>by kernel_rfl) (fun _=>by kernel_rfl) (fun p4=>?_) (fun p4 W4 T hF hK=>?_)
 ·iterate 3 refine ok_v (by kernel_rfl) ?_
  exact ok_nil
 replace hS:=SymF.fb hS hF [0] [⟨(p1 0).N,#[.bool g,.string s,.int .i64 x],23,true⟩] (by kernel_rfl) (by kernel_rfl)
 replace hG:=hF.gx
 clear hF
 have z4:=hS.fr.size
 refine wp_ret ?_
 refine then_r ?_
 exact sym_end hS hK (.tuple #[.string ⟨#[]⟩,.int .i64 e1]) [] [] (by kernel_rfl) (by kernel_rfl) ⟨rfl,hS.fr⟩
theorem rsc_z (w:World) (g:Bool) (s:ByteArray) (x:Int) (sg t:ByteArray) (hsg:sg.size≤1) (q1c:sg ++ (⟨#[48,101,48]⟩:ByteArray) = t) (hz:s.size = 0) (HC:Hid (∀ W:World,Calls Tryd.prog 14 #[.agg #[.bool g,.string s,.int .i64 x]] W fun e W'=>e = .returned (.int .i64 0)∧Below W.heap.size W W')) (HN:Hid (∀ W:World,Calls Tryd.prog 16 #[.bool g] W fun e W'=>e = .returned (.string sg)∧Below W.heap.size W W'))  :
  Calls Tryd.prog 7 #[.agg #[.bool g,.string s,.int .i64 x]] w fun en w'=>en = .returned (.tuple #[.string t,.int .i64 0])∧Below w.heap.size w w':=by
 have e3:(⟨#[48,101,48]⟩:ByteArray).size = 3:=rfl
 have q1:script Tryd.prog 0 (Op.stringOp .add sg ⟨#[48,101,48]⟩) [] = some (.string t,[]):=by rw [← q1c]; exact script_cat (by omega)
 refine calls_sym Tryd.func7 rfl (by kernel_rfl) fun T hK=>?_
 replace hK:Kn T _ [(0,.agg #[.bool g,.string s,.int .i64 x])]:=hK
 have hS:=Fb.begin w
 have hG:GsAt [] w:=trivial
 refine wp_symQ hS hG hK (fun p1=>[.n 1 #[.bool g,.string s,.int .i64 x] 23,.v 2 (.string { data:=#[] }),.v 3 (.int .i64 0)]) (fun p1=>[(1,.pointer (some ⟨(p1 0).N,0,none⟩)),(2,.string { data:=#[] }),(3,.int .i64 0)]) (by kernel_rfl) (fun _ _=>by kernel_rfl) (fun _=>by kernel_rfl) (fun _=>by kernel_rfl) (fun p1=>?_) (fun p1 W1 T hF hK=>?_)
 ·refine ok_n (fun _=>by kernel_rfl) ?_
  iterate 2 refine ok_v (by kernel_rfl) ?_
  exact ok_nil
 replace hS:=SymF.fb hS hF [1000] [⟨(p1 0).N,#[.bool g,.string s,.int .i64 x],23,true⟩] (by kernel_rfl) (by kernel_rfl)
 replace hG:=hF.gx
 clear hF
 have z1:=hS.fr.size
 refine wp_symQ hS hG hK (fun p2=>[.l 6 (.agg #[.bool g,.string s,.int .i64 x]) 0 0,.c (some 7) (cV (.int .i64 0)),.v 4 (.int .i64 0)]) (fun p2=>[(1,.pointer (some ⟨(p1 0).N,0,none⟩)),(2,.string { data:=#[] }),(3,.int .i64 0),(4,.int .i64 0)]) (by kernel_rfl) (fun _ _=>by kernel_rfl) (fun _=>by kernel_rfl) (fun _=>by kernel_rfl) (fun p2=>?_) (fun p2 W2 T hF hK=>?_)
 ·refine ok_L (by kernel_rfl) (by kernel_rfl) (by kernel_rfl) ?_
  refine ok_c (fun W cx=>as_v (unhide HC _)) (by kernel_rfl) ?_
  refine ok_v (by kernel_rfl) ?_
  exact ok_nil
 replace hS:=SymF.fb hS hF [0] [⟨(p1 0).N,#[.bool g,.string s,.int .i64 x],23,true⟩] (by kernel_rfl) (by kernel_rfl)
 replace hG:=hF.gx
 clear hF
 have z2:=hS.fr.size
 refine wp_seq ?_
 refine wp_symQ hS hG hK (fun p3=>[.v 8 (.int .i64 0),.v 9 (.bool false)]) (fun p3=>[(1,.pointer (some ⟨(p1 0).N,0,none⟩)),(2,.string { data:=#[] }),(3,.int .i64 0),(4,.int .i64 0),(9,.bool false)]) (by kernel_rfl) (fun _ _=>by kernel_rfl) (fun _=>by kernel_rfl) (fun _=>by kernel_rfl) (fun p3=>?_) (fun p3 W3 T hF hK=>?_)
 ·iterate 2 refine ok_v (by kernel_rfl) ?_
  exact ok_nil
 replace hS:=SymF.fb hS hF [0] [⟨(p1 0).N,#[.bool g,.string s,.int .i64 x],23,true⟩] (by kernel_rfl) (by kernel_rfl)
 replace hG:=hF.gx
 clear hF
 have z3:=hS.fr.size
 refine wp_cond_false (hK.ev 9 (by kernel_rfl) _ (by kernel_rfl)) ?_
 refine wp_skip ?_
 refine then_n ?_
 refine wp_seq ?_
 refine wp_symQ hS hG hK (fun p4=>[.l 11 (.agg #[.bool g,.string s,.int .i64 x]) 0 0,.c (some 12) (cV (.bool true))]) (fun p4=>[(1,.pointer (some ⟨(p1 0).N,0,none⟩)),(2,.string { data:=#[] }),(3,.int .i64 0),(4,.int .i64 0),(9,.bool false),(12,.bool true)]) (by kernel_rfl) (fun _ _=>by kernel_rfl) (fun _=>by kernel_rfl) (fun _=>by kernel_rfl) (fun p4=>?_) (fun p4 W4 T hF hK=>?_)
 ·refine ok_L (by kernel_rfl) (by kernel_rfl) (by kernel_rfl) ?_
  refine ok_c (fun W cx=>as_v (rnone_t _ g s x hz)) (by kernel_rfl) ?_
  exact ok_nil
 replace hS:=SymF.fb hS hF [0] [⟨(p1 0).N,#[.bool g,.string s,.int .i64 x],23,true⟩] (by kernel_rfl) (by kernel_rfl)
 replace hG:=hF.gx
 clear hF
 have z4:=hS.fr.size
 refine wp_cond_true (hK.ev 12 (by kernel_rfl) _ (by kernel_rfl)) ?_
 refine wp_symQ hS hG hK (fun p5=>[.v 13 (.pointer (some ⟨(p1 0).N,0,none⟩)),.l 14 (.bool g) 0 0,.c (some 15) (cV (.string sg)),.v 16 (.string t),.v 2 (.string t),.v 3 (.int .i64 0)]) (fun p5=>[(1,.pointer (some ⟨(p1 0).N,0,none⟩)),(2,.string t),(3,.int .i64 0),(4,.int .i64 0),(9,.bool false),(12,.bool true)]) (by kernel_rfl) (fun _ _=>by kernel_rfl) (fun _=>by kernel_rfl) (fun _=>by kernel_rfl) (fun p5=>?_) (fun p5 W5 T hF hK=>?_)
 ·refine ok_v (by kernel_rfl) ?_
  refine ok_L (by kernel_rfl) (by kernel_rfl) (by kernel_rfl) ?_
  refine ok_c (fun W cx=>as_v (unhide HN _)) (by kernel_rfl) ?_
  refine ok_vr (q1) (by kernel_rfl) ?_
  iterate 2 refine ok_v (by kernel_rfl) ?_
  exact ok_nil
 replace hS:=SymF.fb hS hF [0] [⟨(p1 0).N,#[.bool g,.string s,.int .i64 x],23,true⟩] (by kernel_rfl) (by kernel_rfl)
 replace hG:=hF.gx
 clear hF
 have z5:=hS.fr.size
 refine wp_ret ?_
 refine then_r ?_
 exact sym_end hS hK (.tuple #[.string t,.int .i64 0]) [] [] (by kernel_rfl) (by kernel_rfl) ⟨rfl,hS.fr⟩
theorem rsc_1 (w:World) (g:Bool) (s:ByteArray) (x:Int) (sg h1 u1 u2 u3 it u4:ByteArray) (y:Int) (hx0:-1073741824≤x) (hx1:x≤1073741824) (hsg:sg.size≤1) (_hsm:s.size≤65536) (hd1:s.size = 1) (hit:it.size≤200) (hh1:s.extract 0 1 = h1) (hh1s:h1.size = 1) (q1c:sg ++ h1 = u1) (hu1:u1.size≤2) (hu2:u1 = u2) (hu2s:u2.size≤65539) (q4c:u2 ++ (⟨#[101]⟩:ByteArray) = u3) (hu3:u3.size≤65540) (q5c:u3 ++ it = u4) (hy:x+(s.size:Int) - 1 = y) (hz:s.size≠0) (HC:Hid (∀ W:World,Calls Tryd.prog 14 #[.agg #[.bool g,.string s,.int .i64 x]] W fun e W'=>e = .returned (.int .i64 0)∧Below W.heap.size W W')) (HN:Hid (∀ W:World,Calls Tryd.prog 16 #[.bool g] W fun e W'=>e = .returned (.string sg)∧Below W.heap.size W W')) (HI:Hid (∀ W:World,Calls Tryd.prog 19 #[.int .i64 y] W fun e W'=>e = .returned (.string it)∧Below W.heap.size W W')) :
  Calls Tryd.prog 7 #[.agg #[.bool g,.string s,.int .i64 x]] w fun en w'=>en = .returned (.tuple #[.string u4,.int .i64 0])∧Below w.heap.size w w':=by
 have e46:(⟨#[46]⟩:ByteArray).size = 1:=rfl
 have e101:(⟨#[101]⟩:ByteArray).size = 1:=rfl
 have hto:script Tryd.prog 0 (Instr.sliceAt 9 (.string s) none (some (.int .i64 1)) none) [] = some (.string h1,[]):=by rw [← hh1]; exact script_to Tryd.under_str (by omega) (by omega)
 have q1:script Tryd.prog 0 (Op.stringOp .add sg h1) [] = some (.string u1,[]):=by rw [← q1c]; exact script_cat (by omega)
 subst hu2
 have q4:script Tryd.prog 0 (Op.stringOp .add u1 ⟨#[101]⟩) [] = some (.string u3,[]):=by rw [← q4c]; exact script_cat (by omega)
 have q5:script Tryd.prog 0 (Op.stringOp .add u3 it) [] = some (.string u4,[]):=by rw [← q5c]; exact script_cat (by omega)
 refine calls_sym Tryd.func7 rfl (by kernel_rfl) fun T hK=>?_
 replace hK:Kn T _ [(0,.agg #[.bool g,.string s,.int .i64 x])]:=hK
 have hS:=Fb.begin w
 have hG:GsAt [] w:=trivial
 refine wp_symQ hS hG hK (fun p1=>[.n 1 #[.bool g,.string s,.int .i64 x] 23,.v 2 (.string { data:=#[] }),.v 3 (.int .i64 0)]) (fun p1=>[(1,.pointer (some ⟨(p1 0).N,0,none⟩)),(2,.string { data:=#[] }),(3,.int .i64 0)]) (by kernel_rfl) (fun _ _=>by kernel_rfl) (fun _=>by kernel_rfl) (fun _=>by kernel_rfl) (fun p1=>?_) (fun p1 W1 T hF hK=>?_)
 ·refine ok_n (fun _=>by kernel_rfl) ?_
  iterate 2 refine ok_v (by kernel_rfl) ?_
  exact ok_nil
 replace hS:=SymF.fb hS hF [1000] [⟨(p1 0).N,#[.bool g,.string s,.int .i64 x],23,true⟩] (by kernel_rfl) (by kernel_rfl)
 replace hG:=hF.gx
 clear hF
 have z1:=hS.fr.size
 refine wp_symQ hS hG hK (fun p2=>[.l 6 (.agg #[.bool g,.string s,.int .i64 x]) 0 0,.c (some 7) (cV (.int .i64 0)),.v 4 (.int .i64 0)]) (fun p2=>[(1,.pointer (some ⟨(p1 0).N,0,none⟩)),(2,.string { data:=#[] }),(3,.int .i64 0),(4,.int .i64 0)]) (by kernel_rfl) (fun _ _=>by kernel_rfl) (fun _=>by kernel_rfl) (fun _=>by kernel_rfl) (fun p2=>?_) (fun p2 W2 T hF hK=>?_)
 ·refine ok_L (by kernel_rfl) (by kernel_rfl) (by kernel_rfl) ?_
  refine ok_c (fun W cx=>as_v (unhide HC _)) (by kernel_rfl) ?_
  refine ok_v (by kernel_rfl) ?_
  exact ok_nil
 replace hS:=SymF.fb hS hF [0] [⟨(p1 0).N,#[.bool g,.string s,.int .i64 x],23,true⟩] (by kernel_rfl) (by kernel_rfl)
 replace hG:=hF.gx
 clear hF
 have z2:=hS.fr.size
 refine wp_seq ?_
 refine wp_symQ hS hG hK (fun p3=>[.v 8 (.int .i64 0),.v 9 (.bool false)]) (fun p3=>[(1,.pointer (some ⟨(p1 0).N,0,none⟩)),(2,.string { data:=#[] }),(3,.int .i64 0),(4,.int .i64 0),(9,.bool false)]) (by kernel_rfl) (fun _ _=>by kernel_rfl) (fun _=>by kernel_rfl) (fun _=>by kernel_rfl) (fun p3=>?_) (fun p3 W3 T hF hK=>?_)
 ·iterate 2 refine ok_v (by kernel_rfl) ?_
  exact ok_nil
 replace hS:=SymF.fb hS hF [0] [⟨(p1 0).N,#[.bool g,.string s,.int .i64 x],23,true⟩] (by kernel_rfl) (by kernel_rfl)
 replace hG:=hF.gx
 clear hF
 have z3:=hS.fr.size
 refine wp_cond_false (hK.ev 9 (by kernel_rfl) _ (by kernel_rfl)) ?_
 refine wp_skip ?_
 refine then_n ?_
 refine wp_seq ?_
 refine wp_symQ hS hG hK (fun p4=>[.l 11 (.agg #[.bool g,.string s,.int .i64 x]) 0 0,.c (some 12) (cV (.bool false))]) (fun p4=>[(1,.pointer (some ⟨(p1 0).N,0,none⟩)),(2,.string { data:=#[] }),(3,.int .i64 0),(4,.int .i64 0),(9,.bool false),(12,.bool false)]) (by kernel_rfl) (fun _ _=>by kernel_rfl) (fun _=>by kernel_rfl) (fun _=>by kernel_rfl) (fun p4=>?_) (fun p4 W4 T hF hK=>?_)
 ·refine ok_L (by kernel_rfl) (by kernel_rfl) (by kernel_rfl) ?_
  refine ok_c (fun W cx=>as_v (rnone_f _ g s x hz)) (by kernel_rfl) ?_
  exact ok_nil
 replace hS:=SymF.fb hS hF [0] [⟨(p1 0).N,#[.bool g,.string s,.int .i64 x],23,true⟩] (by kernel_rfl) (by kernel_rfl)
 replace hG:=hF.gx
 clear hF
 have z4:=hS.fr.size
 refine wp_cond_false (hK.ev 12 (by kernel_rfl) _ (by kernel_rfl)) ?_
 refine wp_skip ?_
 refine then_n ?_
 refine wp_symQ hS hG hK (fun p5=>[.v 17 (.pointer (some ⟨(p1 0).N,0,none⟩)),.l 18 (.bool g) 0 0,.c (some 19) (cV (.string sg)),.v 20 (.pointer (some ⟨(p1 0).N,1,none⟩)),.l 21 (.string s) 0 1,.v 22 (.string h1),.v 23 (.string u1),.v 5 (.string u1)]) (fun p5=>[(1,.pointer (some ⟨(p1 0).N,0,none⟩)),(2,.string { data:=#[] }),(3,.int .i64 0),(4,.int .i64 0),(5,.string u1),(9,.bool false),(12,.bool false)]) (by kernel_rfl) (fun _ _=>by kernel_rfl) (fun _=>by kernel_rfl) (fun _=>by kernel_rfl) (fun p5=>?_) (fun p5 W5 T hF hK=>?_)
 ·refine ok_v (by kernel_rfl) ?_
  refine ok_L (by kernel_rfl) (by kernel_rfl) (by kernel_rfl) ?_
  refine ok_c (fun W cx=>as_v (unhide HN _)) (by kernel_rfl) ?_
  refine ok_v (by kernel_rfl) ?_
  refine ok_L (by kernel_rfl) (by kernel_rfl) (by kernel_rfl) ?_
  refine ok_vr (hto) (by kernel_rfl) ?_
  refine ok_vr (q1) (by kernel_rfl) ?_
  refine ok_v (by kernel_rfl) ?_
  exact ok_nil
 replace hS:=SymF.fb hS hF [0] [⟨(p1 0).N,#[.bool g,.string s,.int .i64 x],23,true⟩] (by kernel_rfl) (by kernel_rfl)
 replace hG:=hF.gx
 clear hF
 have z5:=hS.fr.size
 refine wp_seq ?_
 refine wp_symQ hS hG hK (fun p6=>[.v 24 (.pointer (some ⟨(p1 0).N,1,none⟩)),.l 25 (.string s) 0 1,.v 26 (.int .i64 (s.size:Int)),.v 27 (.bool false)]) (fun p6=>[(1,.pointer (some ⟨(p1 0).N,0,none⟩)),(2,.string { data:=#[] }),(3,.int .i64 0),(4,.int .i64 0),(5,.string u1),(9,.bool false),(12,.bool false),(27,.bool false)]) (by kernel_rfl) (fun _ _=>by kernel_rfl) (fun _=>by kernel_rfl) (fun _=>by kernel_rfl) (fun p6=>?_) (fun p6 W6 T hF hK=>?_)
 ·refine ok_v (by kernel_rfl) ?_
  refine ok_L (by kernel_rfl) (by kernel_rfl) (by kernel_rfl) ?_
  refine ok_v (by kernel_rfl) ?_
  refine ok_vb (decide_eq_false (show ¬ (s.size:Int) > 1 by omega)) (by kernel_rfl) ?_
  exact ok_nil
 replace hS:=SymF.fb hS hF [0] [⟨(p1 0).N,#[.bool g,.string s,.int .i64 x],23,true⟩] (by kernel_rfl) (by kernel_rfl)
 replace hG:=hF.gx
 clear hF
 have z6:=hS.fr.size
 refine wp_cond_false (hK.ev 27 (by kernel_rfl) _ (by kernel_rfl)) ?_
 refine wp_skip ?_
 refine then_n ?_
 refine wp_symQ hS hG hK (fun p7=>[.v 34 (.string u1),.v 35 (.string u3),.v 36 (.pointer (some ⟨(p1 0).N,2,none⟩)),.l 37 (.int .i64 x) 0 2,.v 38 (.pointer (some ⟨(p1 0).N,1,none⟩)),.l 39 (.string s) 0 1,.v 40 (.int .i64 (s.size:Int)),.v 41 (.int .i64 (x+(s.size:Int))),.v 42 (.int .i64 y),.c (some 43) (cV (.string it)),.v 44 (.string u4),.v 2 (.string u4),.v 3 (.int .i64 0)]) (fun p7=>[(1,.pointer (some ⟨(p1 0).N,0,none⟩)),(2,.string u4),(3,.int .i64 0),(4,.int .i64 0),(5,.string u1),(9,.bool false),(12,.bool false),(27,.bool false)]) (by kernel_rfl) (fun _ _=>by kernel_rfl) (fun _=>by kernel_rfl) (fun _=>by kernel_rfl) (fun p7=>?_) (fun p7 W7 T hF hK=>?_)
 ·refine ok_v (by kernel_rfl) ?_
  refine ok_vr (q4) (by kernel_rfl) ?_
  refine ok_v (by kernel_rfl) ?_
  refine ok_L (by kernel_rfl) (by kernel_rfl) (by kernel_rfl) ?_
  refine ok_v (by kernel_rfl) ?_
  refine ok_L (by kernel_rfl) (by kernel_rfl) (by kernel_rfl) ?_
  refine ok_v (by kernel_rfl) ?_
  refine ok_vi (wr64 (x:=x+(s.size:Int)) (by omega) (by omega)) (by kernel_rfl) ?_
  refine ok_vi ((wr64 (x:=x+(s.size:Int) - 1) (by omega) (by omega)).trans hy) (by kernel_rfl) ?_
  refine ok_c (fun W cx=>as_v (unhide HI _)) (by kernel_rfl) ?_
  refine ok_vr (q5) (by kernel_rfl) ?_
  iterate 2 refine ok_v (by kernel_rfl) ?_
  exact ok_nil
 replace hS:=SymF.fb hS hF [0] [⟨(p1 0).N,#[.bool g,.string s,.int .i64 x],23,true⟩] (by kernel_rfl) (by kernel_rfl)
 replace hG:=hF.gx
 clear hF
 have z7:=hS.fr.size
 refine wp_ret ?_
 exact sym_end hS hK (.tuple #[.string u4,.int .i64 0]) [] [] (by kernel_rfl) (by kernel_rfl) ⟨rfl,hS.fr⟩
theorem rsc_n (w:World) (g:Bool) (s:ByteArray) (x:Int) (sg h1 u1 v1 r1 u2 u3 it u4:ByteArray) (y:Int) (hx0:-1073741824≤x) (hx1:x≤1073741824) (hsg:sg.size≤1) (hsm:s.size≤65536) (hd1:1 < s.size) (hit:it.size≤200) (hh1:s.extract 0 1 = h1) (hh1s:h1.size = 1) (q1c:sg ++ h1 = u1) (hu1:u1.size≤2) (q2c:u1 ++ (⟨#[46]⟩:ByteArray) = v1) (hv1:v1.size≤3) (hr1:s.extract 1 s.size = r1) (hr1s:r1.size≤65536) (q3c:v1 ++ r1 = u2) (hu2s:u2.size≤65539) (q4c:u2 ++ (⟨#[101]⟩:ByteArray) = u3) (hu3:u3.size≤65540) (q5c:u3 ++ it = u4) (hy:x+(s.size:Int) - 1 = y) (hz:s.size≠0) (HC:Hid (∀ W:World,Calls Tryd.prog 14 #[.agg #[.bool g,.string s,.int .i64 x]] W fun e W'=>e = .returned (.int .i64 0)∧Below W.heap.size W W')) (HN:Hid (∀ W:World,Calls Tryd.prog 16 #[.bool g] W fun e W'=>e = .returned (.string sg)∧Below W.heap.size W W')) (HI:Hid (∀ W:World,Calls Tryd.prog 19 #[.int .i64 y] W fun e W'=>e = .returned (.string it)∧Below W.heap.size W W')) :
  Calls Tryd.prog 7 #[.agg #[.bool g,.string s,.int .i64 x]] w fun en w'=>en = .returned (.tuple #[.string u4,.int .i64 0])∧Below w.heap.size w w':=by
 have e46:(⟨#[46]⟩:ByteArray).size = 1:=rfl
 have e101:(⟨#[101]⟩:ByteArray).size = 1:=rfl
 have hto:script Tryd.prog 0 (Instr.sliceAt 9 (.string s) none (some (.int .i64 1)) none) [] = some (.string h1,[]):=by rw [← hh1]; exact script_to Tryd.under_str (by omega) (by omega)
 have q1:script Tryd.prog 0 (Op.stringOp .add sg h1) [] = some (.string u1,[]):=by rw [← q1c]; exact script_cat (by omega)
 have hfr:script Tryd.prog 0 (Instr.sliceAt 9 (.string s) (some (.int .i64 1)) none none) [] = some (.string r1,[]):=by rw [← hr1]; exact script_from Tryd.under_str (by omega) (by omega)
 have q2:script Tryd.prog 0 (Op.stringOp .add u1 ⟨#[46]⟩) [] = some (.string v1,[]):=by rw [← q2c]; exact script_cat (by omega)
 have q3:script Tryd.prog 0 (Op.stringOp .add v1 r1) [] = some (.string u2,[]):=by rw [← q3c]; exact script_cat (by omega)
 have q4:script Tryd.prog 0 (Op.stringOp .add u2 ⟨#[101]⟩) [] = some (.string u3,[]):=by rw [← q4c]; exact script_cat (by omega)
 have q5:script Tryd.prog 0 (Op.stringOp .add u3 it) [] = some (.string u4,[]):=by rw [← q5c]; exact script_cat (by omega)
 refine calls_sym Tryd.func7 rfl (by kernel_rfl) fun T hK=>?_
 replace hK:Kn T _ [(0,.agg #[.bool g,.string s,.int .i64 x])]:=hK
 have hS:=Fb.begin w
 have hG:GsAt [] w:=trivial
 refine wp_symQ hS hG hK (fun p1=>[.n 1 #[.bool g,.string s,.int .i64 x] 23,.v 2 (.string { data:=#[] }),.v 3 (.int .i64 0)]) (fun p1=>[(1,.pointer (some ⟨(p1 0).N,0,none⟩)),(2,.string { data:=#[] }),(3,.int .i64 0)]) (by kernel_rfl) (fun _ _=>by kernel_rfl) (fun _=>by kernel_rfl) (fun _=>by kernel_rfl) (fun p1=>?_) (fun p1 W1 T hF hK=>?_)
 ·refine ok_n (fun _=>by kernel_rfl) ?_
  iterate 2 refine ok_v (by kernel_rfl) ?_
  exact ok_nil
 replace hS:=SymF.fb hS hF [1000] [⟨(p1 0).N,#[.bool g,.string s,.int .i64 x],23,true⟩] (by kernel_rfl) (by kernel_rfl)
 replace hG:=hF.gx
 clear hF
 have z1:=hS.fr.size
 refine wp_symQ hS hG hK (fun p2=>[.l 6 (.agg #[.bool g,.string s,.int .i64 x]) 0 0,.c (some 7) (cV (.int .i64 0)),.v 4 (.int .i64 0)]) (fun p2=>[(1,.pointer (some ⟨(p1 0).N,0,none⟩)),(2,.string { data:=#[] }),(3,.int .i64 0),(4,.int .i64 0)]) (by kernel_rfl) (fun _ _=>by kernel_rfl) (fun _=>by kernel_rfl) (fun _=>by kernel_rfl) (fun p2=>?_) (fun p2 W2 T hF hK=>?_)
 ·refine ok_L (by kernel_rfl) (by kernel_rfl) (by kernel_rfl) ?_
  refine ok_c (fun W cx=>as_v (unhide HC _)) (by kernel_rfl) ?_
  refine ok_v (by kernel_rfl) ?_
  exact ok_nil
 replace hS:=SymF.fb hS hF [0] [⟨(p1 0).N,#[.bool g,.string s,.int .i64 x],23,true⟩] (by kernel_rfl) (by kernel_rfl)
 replace hG:=hF.gx
 clear hF
 have z2:=hS.fr.size
 refine wp_seq ?_
 refine wp_symQ hS hG hK (fun p3=>[.v 8 (.int .i64 0),.v 9 (.bool false)]) (fun p3=>[(1,.pointer (some ⟨(p1 0).N,0,none⟩)),(2,.string { data:=#[] }),(3,.int .i64 0),(4,.int .i64 0),(9,.bool false)]) (by kernel_rfl) (fun _ _=>by kernel_rfl) (fun _=>by kernel_rfl) (fun _=>by kernel_rfl) (fun p3=>?_) (fun p3 W3 T hF hK=>?_)
 ·iterate 2 refine ok_v (by kernel_rfl) ?_
  exact ok_nil
 replace hS:=SymF.fb hS hF [0] [⟨(p1 0).N,#[.bool g,.string s,.int .i64 x],23,true⟩] (by kernel_rfl) (by kernel_rfl)
 replace hG:=hF.gx
 clear hF
 have z3:=hS.fr.size
 refine wp_cond_false (hK.ev 9 (by kernel_rfl) _ (by kernel_rfl)) ?_
 refine wp_skip ?_
 refine then_n ?_
 refine wp_seq ?_
 refine wp_symQ hS hG hK (fun p4=>[.l 11 (.agg #[.bool g,.string s,.int .i64 x]) 0 0,.c (some 12) (cV (.bool false))]) (fun p4=>[(1,.pointer (some ⟨(p1 0).N,0,none⟩)),(2,.string { data:=#[] }),(3,.int .i64 0),(4,.int .i64 0),(9,.bool false),(12,.bool false)]) (by kernel_rfl) (fun _ _=>by kernel_rfl) (fun _=>by kernel_rfl) (fun _=>by kernel_rfl) (fun p4=>?_) (fun p4 W4 T hF hK=>?_)
 ·refine ok_L (by kernel_rfl) (by kernel_rfl) (by kernel_rfl) ?_
  refine ok_c (fun W cx=>as_v (rnone_f _ g s x hz)) (by kernel_rfl) ?_
  exact ok_nil
 replace hS:=SymF.fb hS hF [0] [⟨(p1 0).N,#[.bool g,.string s,.int .i64 x],23,true⟩] (by kernel_rfl) (by kernel_rfl)
 replace hG:=hF.gx
 clear hF
 have z4:=hS.fr.size
 refine wp_cond_false (hK.ev 12 (by kernel_rfl) _ (by kernel_rfl)) ?_
 refine wp_skip ?_
 refine then_n ?_
 refine wp_symQ hS hG hK (fun p5=>[.v 17 (.pointer (some ⟨(p1 0).N,0,none⟩)),.l 18 (.bool g) 0 0,.c (some 19) (cV (.string sg)),.v 20 (.pointer (some ⟨(p1 0).N,1,none⟩)),.l 21 (.string s) 0 1,.v 22 (.string h1),.v 23 (.string u1),.v 5 (.string u1)]) (fun p5=>[(1,.pointer (some ⟨(p1 0).N,0,none⟩)),(2,.string { data:=#[] }),(3,.int .i64 0),(4,.int .i64 0),(5,.string u1),(9,.bool false),(12,.bool false)]) (by kernel_rfl) (fun _ _=>by kernel_rfl) (fun _=>by kernel_rfl) (fun _=>by kernel_rfl) (fun p5=>?_) (fun p5 W5 T hF hK=>?_)
 ·refine ok_v (by kernel_rfl) ?_
  refine ok_L (by kernel_rfl) (by kernel_rfl) (by kernel_rfl) ?_
  refine ok_c (fun W cx=>as_v (unhide HN _)) (by kernel_rfl) ?_
  refine ok_v (by kernel_rfl) ?_
  refine ok_L (by kernel_rfl) (by kernel_rfl) (by kernel_rfl) ?_
  refine ok_vr (hto) (by kernel_rfl) ?_
  refine ok_vr (q1) (by kernel_rfl) ?_
  refine ok_v (by kernel_rfl) ?_
  exact ok_nil
 replace hS:=SymF.fb hS hF [0] [⟨(p1 0).N,#[.bool g,.string s,.int .i64 x],23,true⟩] (by kernel_rfl) (by kernel_rfl)
 replace hG:=hF.gx
 clear hF
 have z5:=hS.fr.size
 refine wp_seq ?_
 refine wp_symQ hS hG hK (fun p6=>[.v 24 (.pointer (some ⟨(p1 0).N,1,none⟩)),.l 25 (.string s) 0 1,.v 26 (.int .i64 (s.size:Int)),.v 27 (.bool true)]) (fun p6=>[(1,.pointer (some ⟨(p1 0).N,0,none⟩)),(2,.string { data:=#[] }),(3,.int .i64 0),(4,.int .i64 0),(5,.string u1),(9,.bool false),(12,.bool false),(27,.bool true)]) (by kernel_rfl) (fun _ _=>by kernel_rfl) (fun _=>by kernel_rfl) (fun _=>by kernel_rfl) (fun p6=>?_) (fun p6 W6 T hF hK=>?_)
 ·refine ok_v (by kernel_rfl) ?_
  refine ok_L (by kernel_rfl) (by kernel_rfl) (by kernel_rfl) ?_
  refine ok_v (by kernel_rfl) ?_
  refine ok_vb (decide_eq_true (show (s.size:Int) > 1 by omega)) (by kernel_rfl) ?_
  exact ok_nil
 replace hS:=SymF.fb hS hF [0] [⟨(p1 0).N,#[.bool g,.string s,.int .i64 x],23,true⟩] (by kernel_rfl) (by kernel_rfl)
 replace hG:=hF.gx
 clear hF
 have z6:=hS.fr.size
 refine wp_cond_true (hK.ev 27 (by kernel_rfl) _ (by kernel_rfl)) ?_
 refine wp_symG hS hG hK (fun p7=>[.v 28 (.string u1),.v 29 (.string v1),.v 30 (.pointer (some ⟨(p1 0).N,1,none⟩)),.l 31 (.string s) 0 1,.v 32 (.string r1),.v 33 (.string u2),.v 5 (.string u2)]) (fun p7=>[(1,.pointer (some ⟨(p1 0).N,0,none⟩)),(2,.string { data:=#[] }),(3,.int .i64 0),(4,.int .i64 0),(5,.string u2),(9,.bool false),(12,.bool false),(27,.bool true)]) (by kernel_rfl) (fun _ _=>by kernel_rfl) (fun _=>by kernel_rfl) (fun _=>by kernel_rfl) (fun p7=>?_) (fun p7 W7 T hF hK=>?_)
 ·refine ok_v (by kernel_rfl) ?_
  refine ok_vr (q2) (by kernel_rfl) ?_
  refine ok_v (by kernel_rfl) ?_
  refine ok_L (by kernel_rfl) (by kernel_rfl) (by kernel_rfl) ?_
  refine ok_vr (hfr) (by kernel_rfl) ?_
  refine ok_vr (q3) (by kernel_rfl) ?_
  refine ok_v (by kernel_rfl) ?_
  exact ok_nil
 replace hS:=SymF.fb hS hF [0] [⟨(p1 0).N,#[.bool g,.string s,.int .i64 x],23,true⟩] (by kernel_rfl) (by kernel_rfl)
 replace hG:=hF.gx
 clear hF
 have z7:=hS.fr.size
 refine then_n ?_
 refine wp_symQ hS hG hK (fun p8=>[.v 34 (.string u2),.v 35 (.string u3),.v 36 (.pointer (some ⟨(p1 0).N,2,none⟩)),.l 37 (.int .i64 x) 0 2,.v 38 (.pointer (some ⟨(p1 0).N,1,none⟩)),.l 39 (.string s) 0 1,.v 40 (.int .i64 (s.size:Int)),.v 41 (.int .i64 (x+(s.size:Int))),.v 42 (.int .i64 y),.c (some 43) (cV (.string it)),.v 44 (.string u4),.v 2 (.string u4),.v 3 (.int .i64 0)]) (fun p8=>[(1,.pointer (some ⟨(p1 0).N,0,none⟩)),(2,.string u4),(3,.int .i64 0),(4,.int .i64 0),(9,.bool false),(12,.bool false),(27,.bool true)]) (by kernel_rfl) (fun _ _=>by kernel_rfl) (fun _=>by kernel_rfl) (fun _=>by kernel_rfl) (fun p8=>?_) (fun p8 W8 T hF hK=>?_)
 ·refine ok_v (by kernel_rfl) ?_
  refine ok_vr (q4) (by kernel_rfl) ?_
  refine ok_v (by kernel_rfl) ?_
  refine ok_L (by kernel_rfl) (by kernel_rfl) (by kernel_rfl) ?_
  refine ok_v (by kernel_rfl) ?_
  refine ok_L (by kernel_rfl) (by kernel_rfl) (by kernel_rfl) ?_
  refine ok_v (by kernel_rfl) ?_
  refine ok_vi (wr64 (x:=x+(s.size:Int)) (by omega) (by omega)) (by kernel_rfl) ?_
  refine ok_vi ((wr64 (x:=x+(s.size:Int) - 1) (by omega) (by omega)).trans hy) (by kernel_rfl) ?_
  refine ok_c (fun W cx=>as_v (unhide HI _)) (by kernel_rfl) ?_
  refine ok_vr (q5) (by kernel_rfl) ?_
  iterate 2 refine ok_v (by kernel_rfl) ?_
  exact ok_nil
 replace hS:=SymF.fb hS hF [0] [⟨(p1 0).N,#[.bool g,.string s,.int .i64 x],23,true⟩] (by kernel_rfl) (by kernel_rfl)
 replace hG:=hF.gx
 clear hF
 have z8:=hS.fr.size
 refine wp_ret ?_
 exact sym_end hS hK (.tuple #[.string u4,.int .i64 0]) [] [] (by kernel_rfl) (by kernel_rfl) ⟨rfl,hS.fr⟩
end Go.Proofs.YtdbmdhfjmdlihaaDoor
