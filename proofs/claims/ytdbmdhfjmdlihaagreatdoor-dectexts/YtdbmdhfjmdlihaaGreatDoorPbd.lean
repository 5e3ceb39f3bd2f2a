/- Of what DecTextsRow stands on: DcNamW DcTxtW. -/
import Derived.Test.YtdbmdhfjmdlihaaGreatDoorPal
import Derived.Test.YtdbmdhfjmdlihaaGreatDoorPba
import Derived.Test.YtdbmdhfjmdlihaaGreatDoorPak
import Derived.Test.YtdbmdhfjmdlihaaGreatDoorPbc
namespace Go.Proofs.YtdbmdhfjmdlihaaGreatDoor
open Go.RowKit
set_option maxHeartbeats 4000000
set_option maxRecDepth 20000
theorem sad_zt (w:World) (s:ByteArray) (x:Int) (hz:s.size = 0) :
  Calls Tryz.prog 20 #[.agg #[.bool true,.string s,.int .i64 x]] w fun en w'=>en = .returned (.tuple #[.string ⟨#[45]⟩,.string ⟨#[48]⟩])∧Below w.heap.size w w':=by
 refine calls_sym Tryz.func20 rfl (by kernel_rfl) fun T hK=>?_
 replace hK:Kn T _ [(0,.agg #[.bool true,.string s,.int .i64 x])]:=hK
 have hS:=Fb.begin w
 have hG:GsAt [] w:=trivial
 refine wp_symQ hS hG hK (fun p1=>[.n 1 #[.bool true,.string s,.int .i64 x] 23,.v 2 (.string { data:=#[] }),.v 3 (.string { data:=#[] })]) (fun p1=>[(1,.pointer (some ⟨(p1 0).N,0,none⟩)),(2,.string { data:=#[] }),(3,.string { data:=#[] })]) (by kernel_rfl) (fun _ _=>by kernel_rfl) (fun _=>by kernel_rfl) (fun _=>by kernel_rfl) (fun p1=>?_) (fun p1 W1 T hF hK=>?_)
 ·refine ok_n (fun _=>by kernel_rfl) ?_
  iterate 2 refine ok_v (by kernel_rfl) ?_
  exact ok_nil
 replace hS:=SymF.fb hS hF [1000] [⟨(p1 0).N,#[.bool true,.string s,.int .i64 x],23,true⟩] (by kernel_rfl) (by kernel_rfl)
 replace hG:=hF.gx
 clear hF
 have z1:=hS.fr.size
 refine wp_symQ hS hG hK (fun p2=>[.v 4 (.pointer (some ⟨(p1 0).N,1,none⟩)),.l 5 (.string s) 0 1,.v 3 (.string s)]) (fun p2=>[(1,.pointer (some ⟨(p1 0).N,0,none⟩)),(2,.string { data:=#[] }),(3,.string s)]) (by kernel_rfl) (fun _ _=>by kernel_rfl) (fun _=>by kernel_rfl) (fun _=>by kernel_rfl) (fun p2=>?_) (fun p2 W2 T hF hK=>?_)
 ·refine ok_v (by kernel_rfl) ?_
  refine ok_L (by kernel_rfl) (by kernel_rfl) (by kernel_rfl) ?_
  refine ok_v (by kernel_rfl) ?_
  exact ok_nil
 replace hS:=SymF.fb hS hF [0] [⟨(p1 0).N,#[.bool true,.string s,.int .i64 x],23,true⟩] (by kernel_rfl) (by kernel_rfl)
 replace hG:=hF.gx
 clear hF
 have z2:=hS.fr.size
 refine wp_seq ?_
 refine wp_symQ hS hG hK (fun p3=>[.l 6 (.agg #[.bool true,.string s,.int .i64 x]) 0 0,.c (some 7) (cV (.bool true))]) (fun p3=>[(1,.pointer (some ⟨(p1 0).N,0,none⟩)),(2,.string { data:=#[] }),(3,.string s),(7,.bool true)]) (by kernel_rfl) (fun _ _=>by kernel_rfl) (fun _=>by kernel_rfl) (fun _=>by kernel_rfl) (fun p3=>?_) (fun p3 W3 T hF hK=>?_)
 ·refine ok_L (by kernel_rfl) (by kernel_rfl) (by kernel_rfl) ?_
  refine ok_c (fun W cx=>as_v (isN_t _ true s x hz)) (by kernel_rfl) ?_
  exact ok_nil
 replace hS:=SymF.fb hS hF [0] [⟨(p1 0).N,#[.bool true,.string s,.int .i64 x],23,true⟩] (by kernel_rfl) (by kernel_rfl)
 replace hG:=hF.gx
 clear hF
 have z3:=hS.fr.size
 refine wp_cond_true (hK.ev 7 (by kernel_rfl) _ (by kernel_rfl)) ?_
 refine wp_symG hS hG hK (fun p4=>[.v 3 (.string { data:=#[48] })]) (fun p4=>[(1,.pointer (some ⟨(p1 0).N,0,none⟩)),(2,.string { data:=#[] }),(3,.string { data:=#[48] }),(7,.bool true)]) (by kernel_rfl) (fun _ _=>by kernel_rfl) (fun _=>by kernel_rfl) (fun _=>by kernel_rfl) (fun p4=>?_) (fun p4 W4 T hF hK=>?_)
 ·refine ok_v (by kernel_rfl) ?_
  exact ok_nil
 replace hS:=SymF.fb hS hF [0] [⟨(p1 0).N,#[.bool true,.string s,.int .i64 x],23,true⟩] (by kernel_rfl) (by kernel_rfl)
 replace hG:=hF.gx
 clear hF
 have z4:=hS.fr.size
 refine then_n ?_
 refine wp_seq ?_
 refine wp_symQ hS hG hK (fun p5=>[.v 8 (.pointer (some ⟨(p1 0).N,0,none⟩)),.l 9 (.bool true) 0 0]) (fun p5=>[(2,.string { data:=#[] }),(3,.string { data:=#[48] }),(7,.bool true),(9,.bool true)]) (by kernel_rfl) (fun _ _=>by kernel_rfl) (fun _=>by kernel_rfl) (fun _=>by kernel_rfl) (fun p5=>?_) (fun p5 W5 T hF hK=>?_)
 ·refine ok_v (by kernel_rfl) ?_
  refine ok_L (by kernel_rfl) (by kernel_rfl) (by kernel_rfl) ?_
  exact ok_nil
 replace hS:=SymF.fb hS hF [] [] (by kernel_rfl) (by kernel_rfl)
 replace hG:=hF.gx
 clear hF
 have z5:=hS.fr.size
 refine wp_cond_true (hK.ev 9 (by kernel_rfl) _ (by kernel_rfl)) ?_
 refine wp_symG hS hG hK (fun p6=>[.v 2 (.string { data:=#[45] })]) (fun p6=>[(2,.string { data:=#[45] }),(3,.string { data:=#[48] }),(7,.bool true),(9,.bool true)]) (by kernel_rfl) (fun _ _=>by kernel_rfl) (fun _=>by kernel_rfl) (fun _=>by kernel_rfl) (fun p6=>?_) (fun p6 W6 T hF hK=>?_)
 ·refine ok_v (by kernel_rfl) ?_
  exact ok_nil
 replace hS:=SymF.fb hS hF [] [] (by kernel_rfl) (by kernel_rfl)
 replace hG:=hF.gx
 clear hF
 have z6:=hS.fr.size
 refine then_n ?_
 refine wp_symQ hS hG hK (fun p7=>[.v 10 (.string { data:=#[45] }),.v 11 (.string { data:=#[48] }),.v 2 (.string { data:=#[45] }),.v 3 (.string { data:=#[48] })]) (fun p7=>[(2,.string { data:=#[45] }),(3,.string { data:=#[48] }),(7,.bool true),(9,.bool true)]) (by kernel_rfl) (fun _ _=>by kernel_rfl) (fun _=>by kernel_rfl) (fun _=>by kernel_rfl) (fun p7=>?_) (fun p7 W7 T hF hK=>?_)
 ·iterate 4 refine ok_v (by kernel_rfl) ?_
  exact ok_nil
 replace hS:=SymF.fb hS hF [] [] (by kernel_rfl) (by kernel_rfl)
 replace hG:=hF.gx
 clear hF
 have z7:=hS.fr.size
 refine wp_ret ?_
 exact sym_end hS hK (.tuple #[.string ⟨#[45]⟩,.string ⟨#[48]⟩]) [] [] (by kernel_rfl) (by kernel_rfl) ⟨rfl,hS.fr⟩
theorem sad_zf (w:World) (s:ByteArray) (x:Int) (hz:s.size = 0) :
  Calls Tryz.prog 20 #[.agg #[.bool false,.string s,.int .i64 x]] w fun en w'=>en = .returned (.tuple #[.string ⟨#[]⟩,.string ⟨#[48]⟩])∧Below w.heap.size w w':=by
 refine calls_sym Tryz.func20 rfl (by kernel_rfl) fun T hK=>?_
 replace hK:Kn T _ [(0,.agg #[.bool false,.string s,.int .i64 x])]:=hK
 have hS:=Fb.begin w
 have hG:GsAt [] w:=trivial
 refine wp_symQ hS hG hK (fun p1=>[.n 1 #[.bool false,.string s,.int .i64 x] 23,.v 2 (.string { data:=#[] }),.v 3 (.string { data:=#[] })]) (fun p1=>[(1,.pointer (some ⟨(p1 0).N,0,none⟩)),(2,.string { data:=#[] }),(3,.string { data:=#[] })]) (by kernel_rfl) (fun _ _=>by kernel_rfl) (fun _=>by kernel_rfl) (fun _=>by kernel_rfl) (fun p1=>?_) (fun p1 W1 T hF hK=>?_)
 ·refine ok_n (fun _=>by kernel_rfl) ?_
  iterate 2 refine ok_v (by kernel_rfl) ?_
  exact ok_nil
 replace hS:=SymF.fb hS hF [1000] [⟨(p1 0).N,#[.bool false,.string s,.int .i64 x],23,true⟩] (by kernel_rfl) (by kernel_rfl)
 replace hG:=hF.gx
 clear hF
 have z1:=hS.fr.size
 refine wp_symQ hS hG hK (fun p2=>[.v 4 (.pointer (some ⟨(p1 0).N,1,none⟩)),.l 5 (.string s) 0 1,.v 3 (.string s)]) (fun p2=>[(1,.pointer (some ⟨(p1 0).N,0,none⟩)),(2,.string { data:=#[] }),(3,.string s)]) (by kernel_rfl) (fun _ _=>by kernel_rfl) (fun _=>by kernel_rfl) (fun _=>by kernel_rfl) (fun p2=>?_) (fun p2 W2 T hF hK=>?_)
 ·refine ok_v (by kernel_rfl) ?_
  refine ok_L (by kernel_rfl) (by kernel_rfl) (by kernel_rfl) ?_
  refine ok_v (by kernel_rfl) ?_
  exact ok_nil
 replace hS:=SymF.fb hS hF [0] [⟨(p1 0).N,#[.bool false,.string s,.int .i64 x],23,true⟩] (by kernel_rfl) (by kernel_rfl)
 replace hG:=hF.gx
 clear hF
 have z2:=hS.fr.size
 refine wp_seq ?_
 refine wp_symQ hS hG hK (fun p3=>[.l 6 (.agg #[.bool false,.string s,.int .i64 x]) 0 0,.c (some 7) (cV (.bool true))]) (fun p3=>[(1,.pointer (some ⟨(p1 0).N,0,none⟩)),(2,.string { data:=#[] }),(3,.string s),(7,.bool true)]) (by kernel_rfl) (fun _ _=>by kernel_rfl) (fun _=>by kernel_rfl) (fun _=>by kernel_rfl) (fun p3=>?_) (fun p3 W3 T hF hK=>?_)
 ·refine ok_L (by kernel_rfl) (by kernel_rfl) (by kernel_rfl) ?_
  refine ok_c (fun W cx=>as_v (isN_t _ false s x hz)) (by kernel_rfl) ?_
  exact ok_nil
 replace hS:=SymF.fb hS hF [0] [⟨(p1 0).N,#[.bool false,.string s,.int .i64 x],23,true⟩] (by kernel_rfl) (by kernel_rfl)
 replace hG:=hF.gx
 clear hF
 have z3:=hS.fr.size
 refine wp_cond_true (hK.ev 7 (by kernel_rfl) _ (by kernel_rfl)) ?_
 refine wp_symG hS hG hK (fun p4=>[.v 3 (.string { data:=#[48] })]) (fun p4=>[(1,.pointer (some ⟨(p1 0).N,0,none⟩)),(2,.string { data:=#[] }),(3,.string { data:=#[48] }),(7,.bool true)]) (by kernel_rfl) (fun _ _=>by kernel_rfl) (fun _=>by kernel_rfl) (fun _=>by kernel_rfl) (fun p4=>?_) (fun p4 W4 T hF hK=>?_)
 ·refine ok_v (by kernel_rfl) ?_
  exact ok_nil
 replace hS:=SymF.fb hS hF [0] [⟨(p1 0).N,#[.bool false,.string s,.int .i64 x],23,true⟩] (by kernel_rfl) (by kernel_rfl)
 replace hG:=hF.gx
 clear hF
 have z4:=hS.fr.size
 refine then_n ?_
 refine wp_seq ?_
 refine wp_symQ hS hG hK (fun p5=>[.v 8 (.pointer (some ⟨(p1 0).N,0,none⟩)),.l 9 (.bool false) 0 0]) (fun p5=>[(2,.string { data:=#[] }),(3,.string { data:=#[48] }),(7,.bool true),(9,.bool false)]) (by kernel_rfl) (fun _ _=>by kernel_rfl) (fun _=>by kernel_rfl) (fun _=>by kernel_rfl) (fun p5=>?_) (fun p5 W5 T hF hK=>?_)
 ·refine ok_v (by kernel_rfl) ?_
  refine ok_L (by kernel_rfl) (by kernel_rfl) (by kernel_rfl) ?_
  exact ok_nil
 replace hS:=SymF.fb hS hF [] [] (by kernel_rfl) (by kernel_rfl)
 replace hG:=hF.gx
 clear hF
 have z5:=hS.fr.size
 refine wp_cond_false (hK.ev 9 (by kernel_rfl) _ (by kernel_rfl)) ?_
 refine wp_skip ?_
 refine then_n ?_
 refine wp_symQ hS hG hK (fun p6=>[.v 10 (.string { data:=#[] }),.v 11 (.string { data:=#[48] }),.v 2 (.string { data:=#[] }),.v 3 (.string { data:=#[48] })]) (fun p6=>[(2,.string { data:=#[] }),(3,.string { data:=#[48] }),(7,.bool true),(9,.bool false)]) (by kernel_rfl) (fun _ _=>by kernel_rfl) (fun _=>by kernel_rfl) (fun _=>by kernel_rfl) (fun p6=>?_) (fun p6 W6 T hF hK=>?_)
 ·iterate 4 refine ok_v (by kernel_rfl) ?_
  exact ok_nil
 replace hS:=SymF.fb hS hF [] [] (by kernel_rfl) (by kernel_rfl)
 replace hG:=hF.gx
 clear hF
 have z6:=hS.fr.size
 refine wp_ret ?_
 exact sym_end hS hK (.tuple #[.string ⟨#[]⟩,.string ⟨#[48]⟩]) [] [] (by kernel_rfl) (by kernel_rfl) ⟨rfl,hS.fr⟩
theorem sad_dt (w:World) (s:ByteArray) (x:Int) (hz:s.size≠0) :
  Calls Tryz.prog 20 #[.agg #[.bool true,.string s,.int .i64 x]] w fun en w'=>en = .returned (.tuple #[.string ⟨#[45]⟩,.string s])∧Below w.heap.size w w':=by
 refine calls_sym Tryz.func20 rfl (by kernel_rfl) fun T hK=>?_
 replace hK:Kn T _ [(0,.agg #[.bool true,.string s,.int .i64 x])]:=hK
 have hS:=Fb.begin w
 have hG:GsAt [] w:=trivial
 refine wp_symQ hS hG hK (fun p1=>[.n 1 #[.bool true,.string s,.int .i64 x] 23,.v 2 (.string { data:=#[] }),.v 3 (.string { data:=#[] })]) (fun p1=>[(1,.pointer (some ⟨(p1 0).N,0,none⟩)),(2,.string { data:=#[] }),(3,.string { data:=#[] })]) (by kernel_rfl) (fun _ _=>by kernel_rfl) (fun _=>by kernel_rfl) (fun _=>by kernel_rfl) (fun p1=>?_) (fun p1 W1 T hF hK=>?_)
 ·refine ok_n (fun _=>by kernel_rfl) ?_
  iterate 2 refine ok_v (by kernel_rfl) ?_
  exact ok_nil
 replace hS:=SymF.fb hS hF [1000] [⟨(p1 0).N,#[.bool true,.string s,.int .i64 x],23,true⟩] (by kernel_rfl) (by kernel_rfl)
 replace hG:=hF.gx
 clear hF
 have z1:=hS.fr.size
 refine wp_symQ hS hG hK (fun p2=>[.v 4 (.pointer (some ⟨(p1 0).N,1,none⟩)),.l 5 (.string s) 0 1,.v 3 (.string s)]) (fun p2=>[(1,.pointer (some ⟨(p1 0).N,0,none⟩)),(2,.string { data:=#[] }),(3,.string s)]) (by kernel_rfl) (fun _ _=>by kernel_rfl) (fun _=>by kernel_rfl) (fun _=>by kernel_rfl) (fun p2=>?_) (fun p2 W2 T hF hK=>?_)
 ·refine ok_v (by kernel_rfl) ?_
  refine ok_L (by kernel_rfl) (by kernel_rfl) (by kernel_rfl) ?_
  refine ok_v (by kernel_rfl) ?_
  exact ok_nil
 replace hS:=SymF.fb hS hF [0] [⟨(p1 0).N,#[.bool true,.string s,.int .i64 x],23,true⟩] (by kernel_rfl) (by kernel_rfl)
 replace hG:=hF.gx
 clear hF
 have z2:=hS.fr.size
 refine wp_seq ?_
 refine wp_symQ hS hG hK (fun p3=>[.l 6 (.agg #[.bool true,.string s,.int .i64 x]) 0 0,.c (some 7) (cV (.bool false))]) (fun p3=>[(1,.pointer (some ⟨(p1 0).N,0,none⟩)),(2,.string { data:=#[] }),(3,.string s),(7,.bool false)]) (by kernel_rfl) (fun _ _=>by kernel_rfl) (fun _=>by kernel_rfl) (fun _=>by kernel_rfl) (fun p3=>?_) (fun p3 W3 T hF hK=>?_)
 ·refine ok_L (by kernel_rfl) (by kernel_rfl) (by kernel_rfl) ?_
  refine ok_c (fun W cx=>as_v (isN_f _ true s x hz)) (by kernel_rfl) ?_
  exact ok_nil
 replace hS:=SymF.fb hS hF [0] [⟨(p1 0).N,#[.bool true,.string s,.int .i64 x],23,true⟩] (by kernel_rfl) (by kernel_rfl)
 replace hG:=hF.gx
 clear hF
 have z3:=hS.fr.size
 refine wp_cond_false (hK.ev 7 (by kernel_rfl) _ (by kernel_rfl)) ?_
 refine wp_skip ?_
 refine then_n ?_
 refine wp_seq ?_
 refine wp_symQ hS hG hK (fun p4=>[.v 8 (.pointer (some ⟨(p1 0).N,0,none⟩)),.l 9 (.bool true) 0 0]) (fun p4=>[(2,.string { data:=#[] }),(3,.string s),(7,.bool false),(9,.bool true)]) (by kernel_rfl) (fun _ _=>by kernel_rfl) (fun _=>by kernel_rfl) (fun _=>by kernel_rfl) (fun p4=>?_) (fun p4 W4 T hF hK=>?_)
 ·refine ok_v (by kernel_rfl) ?_
  refine ok_L (by kernel_rfl) (by kernel_rfl) (by kernel_rfl) ?_
  exact ok_nil
 replace hS:=SymF.fb hS hF [] [] (by kernel_rfl) (by kernel_rfl)
 replace hG:=hF.gx
 clear hF
 have z4:=hS.fr.size
 refine wp_cond_true (hK.ev 9 (by kernel_rfl) _ (by kernel_rfl)) ?_
 refine wp_symG hS hG hK (fun p5=>[.v 2 (.string { data:=#[45] })]) (fun p5=>[(2,.string { data:=#[45] }),(3,.string s),(7,.bool false),(9,.bool true)]) (by kernel_rfl) (fun _ _=>by kernel_rfl) (fun _=>by kernel_rfl) (fun _=>by kernel_rfl) (fun p5=>?_) (fun p5 W5 T hF hK=>?_)
 ·refine ok_v (by kernel_rfl) ?_
  exact ok_nil
 replace hS:=SymF.fb hS hF [] [] (by kernel_rfl) (by kernel_rfl)
 replace hG:=hF.gx
 clear hF
 have z5:=hS.fr.size
 refine then_n ?_
 refine wp_symQ hS hG hK (fun p6=>[.v 10 (.string { data:=#[45] }),.v 11 (.string s),.v 2 (.string { data:=#[45] }),.v 3 (.string s)]) (fun p6=>[(2,.string { data:=#[45] }),(3,.string s),(7,.bool false),(9,.bool true)]) (by kernel_rfl) (fun _ _=>by kernel_rfl) (fun _=>by kernel_rfl) (fun _=>by kernel_rfl) (fun p6=>?_) (fun p6 W6 T hF hK=>?_)
 ·iterate 4 refine ok_v (by kernel_rfl) ?_
  exact ok_nil
 replace hS:=SymF.fb hS hF [] [] (by kernel_rfl) (by kernel_rfl)
 replace hG:=hF.gx
 clear hF
 have z6:=hS.fr.size
 refine wp_ret ?_
 exact sym_end hS hK (.tuple #[.string ⟨#[45]⟩,.string s]) [] [] (by kernel_rfl) (by kernel_rfl) ⟨rfl,hS.fr⟩
theorem sad_df (w:World) (s:ByteArray) (x:Int) (hz:s.size≠0) :
  Calls Tryz.prog 20 #[.agg #[.bool false,.string s,.int .i64 x]] w fun en w'=>en = .returned (.tuple #[.string ⟨#[]⟩,.string s])∧Below w.heap.size w w':=by
 refine calls_sym Tryz.func20 rfl (by kernel_rfl) fun T hK=>?_
 replace hK:Kn T _ [(0,.agg #[.bool false,.string s,.int .i64 x])]:=hK
 have hS:=Fb.begin w
 have hG:GsAt [] w:=trivial
 refine wp_symQ hS hG hK (fun p1=>[.n 1 #[.bool false,.string s,.int .i64 x] 23,.v 2 (.string { data:=#[] }),.v 3 (.string { data:=#[] })]) (fun p1=>[(1,.pointer (some ⟨(p1 0).N,0,none⟩)),(2,.string { data:=#[] }),(3,.string { data:=#[] })]) (by kernel_rfl) (fun _ _=>by kernel_rfl) (fun _=>by kernel_rfl) (fun _=>by kernel_rfl) (fun p1=>?_) (fun p1 W1 T hF hK=>?_)
 ·refine ok_n (fun _=>by kernel_rfl) ?_
  iterate 2 refine ok_v (by kernel_rfl) ?_
  exact ok_nil
 replace hS:=SymF.fb hS hF [1000] [⟨(p1 0).N,#[.bool false,.string s,.int .i64 x],23,true⟩] (by kernel_rfl) (by kernel_rfl)
 replace hG:=hF.gx
 clear hF
 have z1:=hS.fr.size
 refine wp_symQ hS hG hK (fun p2=>[.v 4 (.pointer (some ⟨(p1 0).N,1,none⟩)),.l 5 (.string s) 0 1,.v 3 (.string s)]) (fun p2=>[(1,.pointer (some ⟨(p1 0).N,0,none⟩)),(2,.string { data:=#[] }),(3,.string s)]) (by kernel_rfl) (fun _ _=>by kernel_rfl) (fun _=>by kernel_rfl) (fun _=>by kernel_rfl) (fun p2=>?_) (fun p2 W2 T hF hK=>?_)
 ·refine ok_v (by kernel_rfl) ?_
  refine ok_L (by kernel_rfl) (by kernel_rfl) (by kernel_rfl) ?_
  refine ok_v (by kernel_rfl) ?_
  exact ok_nil
 replace hS:=SymF.fb hS hF [0] [⟨(p1 0).N,#[.bool false,.string s,.int .i64 x],23,true⟩] (by kernel_rfl) (by kernel_rfl)
 replace hG:=hF.gx
 clear hF
 have z2:=hS.fr.size
 refine wp_seq ?_
 refine wp_symQ hS hG hK (fun p3=>[.l 6 (.agg #[.bool false,.string s,.int .i64 x]) 0 0,.c (some 7) (cV (.bool false))]) (fun p3=>[(1,.pointer (some ⟨(p1 0).N,0,none⟩)),(2,.string { data:=#[] }),(3,.string s),(7,.bool false)]) (by kernel_rfl) (fun _ _=>by kernel_rfl) (fun _=>by kernel_rfl) (fun _=>by kernel_rfl) (fun p3=>?_) (fun p3 W3 T hF hK=>?_)
 ·refine ok_L (by kernel_rfl) (by kernel_rfl) (by kernel_rfl) ?_
  refine ok_c (fun W cx=>as_v (isN_f _ false s x hz)) (by kernel_rfl) ?_
  exact ok_nil
 replace hS:=SymF.fb hS hF [0] [⟨(p1 0).N,#[.bool false,.string s,.int .i64 x],23,true⟩] (by kernel_rfl) (by kernel_rfl)
 replace hG:=hF.gx
 clear hF
 have z3:=hS.fr.size
 refine wp_cond_false (hK.ev 7 (by kernel_rfl) _ (by kernel_rfl)) ?_
 refine wp_skip ?_
 refine then_n ?_
 refine wp_seq ?_
 refine wp_symQ hS hG hK (fun p4=>[.v 8 (.pointer (some ⟨(p1 0).N,0,none⟩)),.l 9 (.bool false) 0 0]) (fun p4=>[(2,.string { data:=#[] }),(3,.string s),(7,.bool false),(9,.bool false)]) (by kernel_rfl) (fun _ _=>by kernel_rfl) (fun _=>by kernel_rfl) (fun _=>by kernel_rfl) (fun p4=>?_) (fun p4 W4 T hF hK=>?_)
 ·refine ok_v (by kernel_rfl) ?_
  refine ok_L (by kernel_rfl) (by kernel_rfl) (by kernel_rfl) ?_
  exact ok_nil
 replace hS:=SymF.fb hS hF [] [] (by kernel_rfl) (by kernel_rfl)
 replace hG:=hF.gx
 clear hF
 have z4:=hS.fr.size
 refine wp_cond_false (hK.ev 9 (by kernel_rfl) _ (by kernel_rfl)) ?_
 refine wp_skip ?_
 refine then_n ?_
 refine wp_symQ hS hG hK (fun p5=>[.v 10 (.string { data:=#[] }),.v 11 (.string s),.v 2 (.string { data:=#[] }),.v 3 (.string s)]) (fun p5=>[(2,.string { data:=#[] }),(3,.string s),(7,.bool false),(9,.bool false)]) (by kernel_rfl) (fun _ _=>by kernel_rfl) (fun _=>by kernel_rfl) (fun _=>by kernel_rfl) (fun p5=>?_) (fun p5 W5 T hF hK=>?_)
 ·iterate 4 refine ok_v (by kernel_rfl) ?_
  exact ok_nil
 replace hS:=SymF.fb hS hF [] [] (by kernel_rfl) (by kernel_rfl)
 replace hG:=hF.gx
 clear hF
 have z5:=hS.fr.size
 refine wp_ret ?_
 exact sym_end hS hK (.tuple #[.string ⟨#[]⟩,.string s]) [] [] (by kernel_rfl) (by kernel_rfl) ⟨rfl,hS.fr⟩
theorem drat_ok (w:World) (g:Bool) (s:ByteArray) (x:Int) (p q M A B Q R S:Nat) (g2:Bool) (hx0:-1073741824≤x) (hx1:x≤1073741824) (hp:max x 0 = (p:Int)) (hq:max (-x) 0 = (q:Int)) (HC:Hid (∀ W:World,Calls Tryz.prog 19 #[.agg #[.bool g,.string s,.int .i64 x]] W fun e W'=>e = .returned (.int .i64 0)∧Below W.heap.size W W')) (H1:Hid (∀ W:World,Calls Tryz.prog 34 #[.agg #[.bool g,.string s,.int .i64 x]] W fun en W'=>(∃ a n c,en = .returned (.agg #[.slice a n c])∧Mine W' W.heap.size a n c M)∧Below W.heap.size W W')) (HA:Hid (∀ W:World,Calls Tryz.prog 39 #[.int .u32 10,.int .i64 (p:Int)] W fun en W'=>(∃ a n c,en = .returned (.tuple #[.agg #[.slice a n c],.int .i64 0])∧Mine W' W.heap.size a n c A)∧Below W.heap.size W W')) (HB:Hid (∀ W:World,Calls Tryz.prog 39 #[.int .u32 10,.int .i64 (q:Int)] W fun en W'=>(∃ a n c,en = .returned (.tuple #[.agg #[.slice a n c],.int .i64 0])∧Mine W' W.heap.size a n c B)∧Below W.heap.size W W')) (HQ:Hid (∀ (W:World) (a:Option Addr) (n c:Nat) (a':Option Addr) (n' c':Nat),Num W a n M→Num W a' n' A→Calls Tryz.prog 33 #[.agg #[.slice a n c],.agg #[.slice a' n' c']] W fun en W'=>(∃ a n c,en = .returned (.tuple #[.agg #[.slice a n c],.int .i64 0])∧Mine W' W.heap.size a n c Q)∧Below W.heap.size W W')) (HM:Hid (∀ (W:World) (a:Option Addr) (n c:Nat) (a':Option Addr) (n' c':Nat),Num W a n Q→Num W a' n' B→Calls Tryz.prog 40 #[.bool g,.agg #[.slice a n c],.agg #[.slice a' n' c']] W fun en W'=>(∃ a n c a' n' c',en = .returned (.tuple #[.agg #[.bool g2,.slice a n c,.slice a' n' c'],.int .i64 0])∧Mine W' W.heap.size a n c R∧Mine W' W.heap.size a' n' c' S)∧Below W.heap.size W W'))  :
  Calls Tryz.prog 17 #[.agg #[.bool g,.string s,.int .i64 x]] w fun en w'=>(∃ a n c a' n' c',en = .returned (.tuple #[.agg #[.bool g2,.slice a n c,.slice a' n' c'],.int .i64 0])∧Mine w' w.heap.size a n c R∧Mine w' w.heap.size a' n' c' S)∧Below w.heap.size w w':=by
 refine calls_sym Tryz.func17 rfl (by kernel_rfl) fun T hK=>?_
 replace hK:Kn T _ [(0,.agg #[.bool g,.string s,.int .i64 x])]:=hK
 have hS:=Fb.begin w
 have hG:GsAt [] w:=trivial
 refine wp_symQ hS hG hK (fun p1=>[.n 1 #[.bool g,.string s,.int .i64 x] 23,.n 2 #[.bool false,.slice none 0 0,.slice none 0 0] 46,.v 3 (.int .i64 0)]) (fun p1=>[(1,.pointer (some ⟨(p1 0).N,0,none⟩)),(2,.pointer (some ⟨(p1 1).N,0,none⟩)),(3,.int .i64 0)]) (by kernel_rfl) (fun _ _=>by kernel_rfl) (fun _=>by kernel_rfl) (fun _=>by kernel_rfl) (fun p1=>?_) (fun p1 W1 T hF hK=>?_)
 ·iterate 2 refine ok_n (fun _=>by kernel_rfl) ?_
  refine ok_v (by kernel_rfl) ?_
  exact ok_nil
 replace hS:=SymF.fb hS hF [1000,1001] [⟨(p1 0).N,#[.bool g,.string s,.int .i64 x],23,true⟩,⟨(p1 1).N,#[.bool false,.slice none 0 0,.slice none 0 0],46,true⟩] (by kernel_rfl) (by kernel_rfl)
 replace hG:=hF.gx
 clear hF
 have z1:=hS.fr.size
 refine wp_seq ?_
 refine wp_symQ hS hG hK (fun p2=>[.l 8 (.agg #[.bool g,.string s,.int .i64 x]) 0 0,.c (some 9) (cV (.int .i64 0)),.v 4 (.int .i64 0)]) (fun p2=>[(1,.pointer (some ⟨(p1 0).N,0,none⟩)),(2,.pointer (some ⟨(p1 1).N,0,none⟩)),(3,.int .i64 0),(4,.int .i64 0)]) (by kernel_rfl) (fun _ _=>by kernel_rfl) (fun _=>by kernel_rfl) (fun _=>by kernel_rfl) (fun p2=>?_) (fun p2 W2 T hF hK=>?_)
 ·refine ok_L (by kernel_rfl) (by kernel_rfl) (by kernel_rfl) ?_
  refine ok_c (fun W cx=>as_v (unhide HC _)) (by kernel_rfl) ?_
  refine ok_v (by kernel_rfl) ?_
  exact ok_nil
 replace hS:=SymF.fb hS hF [0,1] [⟨(p1 0).N,#[.bool g,.string s,.int .i64 x],23,true⟩,⟨(p1 1).N,#[.bool false,.slice none 0 0,.slice none 0 0],46,true⟩] (by kernel_rfl) (by kernel_rfl)
 replace hG:=hF.gx
 clear hF
 have z2:=hS.fr.size
 refine wp_symQ hS hG hK (fun p3=>[.v 10 (.int .i64 0),.v 11 (.bool false)]) (fun p3=>[(1,.pointer (some ⟨(p1 0).N,0,none⟩)),(2,.pointer (some ⟨(p1 1).N,0,none⟩)),(3,.int .i64 0),(4,.int .i64 0),(11,.bool false)]) (by kernel_rfl) (fun _ _=>by kernel_rfl) (fun _=>by kernel_rfl) (fun _=>by kernel_rfl) (fun p3=>?_) (fun p3 W3 T hF hK=>?_)
 ·iterate 2 refine ok_v (by kernel_rfl) ?_
  exact ok_nil
 replace hS:=SymF.fb hS hF [0,1] [⟨(p1 0).N,#[.bool g,.string s,.int .i64 x],23,true⟩,⟨(p1 1).N,#[.bool false,.slice none 0 0,.slice none 0 0],46,true⟩] (by kernel_rfl) (by kernel_rfl)
 replace hG:=hF.gx
 clear hF
 have z3:=hS.fr.size
 refine wp_cond_false (hK.ev 11 (by kernel_rfl) _ (by kernel_rfl)) ?_
 refine wp_skip ?_
 refine then_n ?_
 refine wp_symQ hS hG hK (fun p4=>[.n 5 #[.int .i64 0] 74]) (fun p4=>[(1,.pointer (some ⟨(p1 0).N,0,none⟩)),(2,.pointer (some ⟨(p1 1).N,0,none⟩)),(3,.int .i64 0),(4,.int .i64 0),(5,.pointer (some ⟨(p4 0).N,0,none⟩)),(11,.bool false)]) (by kernel_rfl) (fun _ _=>by kernel_rfl) (fun _=>by kernel_rfl) (fun _=>by kernel_rfl) (fun p4=>?_) (fun p4 W4 T hF hK=>?_)
 ·refine ok_n (fun _=>by kernel_rfl) ?_
  exact ok_nil
 replace hS:=SymF.fb hS hF [0,1,1000] [⟨(p1 0).N,#[.bool g,.string s,.int .i64 x],23,true⟩,⟨(p1 1).N,#[.bool false,.slice none 0 0,.slice none 0 0],46,true⟩,⟨(p4 0).N,#[.int .i64 0],74,true⟩] (by kernel_rfl) (by kernel_rfl)
 replace hG:=hF.gx
 clear hF
 have z4:=hS.fr.size
 refine wp_symQ hS hG hK (fun p5=>[.l 14 (.agg #[.bool g,.string s,.int .i64 x]) 0 0,.c (some 15) (cN W4.heap.size M),.v 16 (.pointer (some ⟨(p1 0).N,2,none⟩)),.l 17 (.int .i64 x) 0 2,.v 18 (.int .i64 (p:Int)),.c (some 19) (cO W4.heap.size A),.v 20 (.agg #[.slice (p5 5).A (p5 5).N (p5 5).C]),.v 21 (.int .i64 0),.u 22 (.agg #[.slice (p5 5).A (p5 5).N (p5 5).C]) (aG 1),.c (some 23) (cO W4.heap.size Q),.v 24 (.agg #[.slice (p5 9).A (p5 9).N (p5 9).C]),.v 25 (.int .i64 0),.u 26 (.agg #[.slice (p5 9).A (p5 9).N (p5 9).C]) (aG 1),.n 6 #[.slice none 0 0] 44,.p 1013 0 [.slice (p5 9).A (p5 9).N (p5 9).C]]) (fun p5=>[(1,.pointer (some ⟨(p1 0).N,0,none⟩)),(2,.pointer (some ⟨(p1 1).N,0,none⟩)),(3,.int .i64 0),(4,.int .i64 0),(5,.pointer (some ⟨(p4 0).N,0,none⟩)),(6,.pointer (some ⟨(p5 13).N,0,none⟩)),(11,.bool false)]) (by kernel_rfl) (fun _ _=>by kernel_rfl) (fun _=>by kernel_rfl) (fun _=>by kernel_rfl) (fun p5=>?_) (fun p5 W5 T hF hK=>?_)
 ·refine ok_L (by kernel_rfl) (by kernel_rfl) (by kernel_rfl) ?_
  refine ok_c (fun W cx=>as_n cx.hb (unhide H1 _)) (by kernel_rfl) ?_
  refine ok_v (by kernel_rfl) ?_
  refine ok_L (by kernel_rfl) (by kernel_rfl) (by kernel_rfl) ?_
  refine ok_vi ((imax _ _).trans hp) (by kernel_rfl) ?_
  refine ok_c (fun W cx=>as_o cx.hb (unhide HA _)) (by kernel_rfl) ?_
  iterate 2 refine ok_v (by kernel_rfl) ?_
  refine ok_u (fun W cx=>runNat_z (p4 0).N 0 _ _ _ _ ⟨_,_,cx.B 2 _ rfl (by kernel_rfl) (by kernel_rfl),rfl⟩) (by kernel_rfl) (by kernel_rfl) ?_
  refine ok_c (fun W cx=>as_o cx.hb (unhide HQ _ _ _ (p5 1).C _ _ (p5 5).C (Mine.num (cx.F 1 (by kernel_rfl))) (Mine.num (cx.F 5 (by kernel_rfl))))) (by kernel_rfl) ?_
  iterate 2 refine ok_v (by kernel_rfl) ?_
  refine ok_u (fun W cx=>runNat_z (p4 0).N 0 _ _ _ _ ⟨_,_,cx.B 2 _ rfl (by kernel_rfl) (by kernel_rfl),rfl⟩) (by kernel_rfl) (by kernel_rfl) ?_
  refine ok_n (fun _=>by kernel_rfl) ?_
  refine ok_P (by kernel_rfl) (by kernel_rfl) (by kernel_rfl) ?_
  exact ok_nil
 replace hS:=SymF.fb hS hF [0,1,2,1013] [⟨(p1 0).N,#[.bool g,.string s,.int .i64 x],23,true⟩,⟨(p1 1).N,#[.bool false,.slice none 0 0,.slice none 0 0],46,true⟩,⟨(p4 0).N,#[.int .i64 0],74,true⟩,⟨(p5 13).N,#[.slice (p5 9).A (p5 9).N (p5 9).C],44,true⟩] (by kernel_rfl) (by kernel_rfl)
 replace hG:GsAt (gM W4.heap.size (p5 1).A (p5 1).N (p5 1).C M :: gM W4.heap.size (p5 5).A (p5 5).N (p5 5).C A :: gM W4.heap.size (p5 9).A (p5 9).N (p5 9).C Q :: _) W5:=⟨hF.fx 1,hF.fx 5,hF.fx 9,hF.gx⟩
 clear hF
 have z5:=hS.fr.size
 refine wp_symQ hS hG hK (fun p6=>[.v 27 (.pointer (some ⟨(p1 0).N,2,none⟩)),.l 28 (.int .i64 x) 0 2,.v 29 (.int .i64 (-x)),.v 30 (.int .i64 (q:Int)),.c (some 31) (cO W5.heap.size B),.v 32 (.agg #[.slice (p6 4).A (p6 4).N (p6 4).C]),.v 33 (.int .i64 0),.u 34 (.agg #[.slice (p6 4).A (p6 4).N (p6 4).C]) (aG 1),.n 7 #[.slice none 0 0] 44,.p 1008 0 [.slice (p6 4).A (p6 4).N (p6 4).C]]) (fun p6=>[(1,.pointer (some ⟨(p1 0).N,0,none⟩)),(2,.pointer (some ⟨(p1 1).N,0,none⟩)),(3,.int .i64 0),(4,.int .i64 0),(5,.pointer (some ⟨(p4 0).N,0,none⟩)),(6,.pointer (some ⟨(p5 13).N,0,none⟩)),(7,.pointer (some ⟨(p6 8).N,0,none⟩)),(11,.bool false)]) (by kernel_rfl) (fun _ _=>by kernel_rfl) (fun _=>by kernel_rfl) (fun _=>by kernel_rfl) (fun p6=>?_) (fun p6 W6 T hF hK=>?_)
 ·refine ok_v (by kernel_rfl) ?_
  refine ok_L (by kernel_rfl) (by kernel_rfl) (by kernel_rfl) ?_
  refine ok_vi ((wr64 (x:=0 - x) (by omega) (by omega)).trans (by omega)) (by kernel_rfl) ?_
  refine ok_vi ((imax _ _).trans hq) (by kernel_rfl) ?_
  refine ok_c (fun W cx=>as_o cx.hb (unhide HB _)) (by kernel_rfl) ?_
  iterate 2 refine ok_v (by kernel_rfl) ?_
  refine ok_u (fun W cx=>runNat_z (p4 0).N 0 _ _ _ _ ⟨_,_,cx.B 2 _ rfl (by kernel_rfl) (by kernel_rfl),rfl⟩) (by kernel_rfl) (by kernel_rfl) ?_
  refine ok_n (fun _=>by kernel_rfl) ?_
  refine ok_P (by kernel_rfl) (by kernel_rfl) (by kernel_rfl) ?_
  exact ok_nil
 replace hS:=SymF.fb hS hF [0,1,2,3,1008] [⟨(p1 0).N,#[.bool g,.string s,.int .i64 x],23,true⟩,⟨(p1 1).N,#[.bool false,.slice none 0 0,.slice none 0 0],46,true⟩,⟨(p4 0).N,#[.int .i64 0],74,true⟩,⟨(p5 13).N,#[.slice (p5 9).A (p5 9).N (p5 9).C],44,true⟩,⟨(p6 8).N,#[.slice (p6 4).A (p6 4).N (p6 4).C],44,true⟩] (by kernel_rfl) (by kernel_rfl)
 replace hG:GsAt (gM W5.heap.size (p6 4).A (p6 4).N (p6 4).C B :: _) W6:=⟨hF.fx 4,hF.gx⟩
 clear hF
 have z6:=hS.fr.size
 refine wp_seq ?_
 refine wp_symQ hS hG hK (fun p7=>[.v 35 (.pointer (some ⟨(p4 0).N,0,none⟩)),.l 36 (.int .i64 0) 2 0,.v 37 (.bool false)]) (fun p7=>[(1,.pointer (some ⟨(p1 0).N,0,none⟩)),(2,.pointer (some ⟨(p1 1).N,0,none⟩)),(3,.int .i64 0),(4,.int .i64 0),(5,.pointer (some ⟨(p4 0).N,0,none⟩)),(6,.pointer (some ⟨(p5 13).N,0,none⟩)),(7,.pointer (some ⟨(p6 8).N,0,none⟩)),(11,.bool false),(37,.bool false)]) (by kernel_rfl) (fun _ _=>by kernel_rfl) (fun _=>by kernel_rfl) (fun _=>by kernel_rfl) (fun p7=>?_) (fun p7 W7 T hF hK=>?_)
 ·refine ok_v (by kernel_rfl) ?_
  refine ok_L (by kernel_rfl) (by kernel_rfl) (by kernel_rfl) ?_
  refine ok_v (by kernel_rfl) ?_
  exact ok_nil
 replace hS:=SymF.fb hS hF [0,1,2,3,4] [⟨(p1 0).N,#[.bool g,.string s,.int .i64 x],23,true⟩,⟨(p1 1).N,#[.bool false,.slice none 0 0,.slice none 0 0],46,true⟩,⟨(p4 0).N,#[.int .i64 0],74,true⟩,⟨(p5 13).N,#[.slice (p5 9).A (p5 9).N (p5 9).C],44,true⟩,⟨(p6 8).N,#[.slice (p6 4).A (p6 4).N (p6 4).C],44,true⟩] (by kernel_rfl) (by kernel_rfl)
 replace hG:=hF.gx
 clear hF
 have z7:=hS.fr.size
 refine wp_cond_false (hK.ev 37 (by kernel_rfl) _ (by kernel_rfl)) ?_
 refine wp_skip ?_
 refine then_n ?_
 refine wp_symQ hS hG hK (fun p8=>[.v 41 (.pointer (some ⟨(p1 0).N,0,none⟩)),.l 42 (.bool g) 0 0,.l 43 (.agg #[.slice (p5 9).A (p5 9).N (p5 9).C]) 3 0,.l 44 (.agg #[.slice (p6 4).A (p6 4).N (p6 4).C]) 4 0,.c (some 45) (cH W7.heap.size R S fun x9 y9=>.tuple #[.agg #[.bool g2,x9,y9],.int .i64 0]),.v 46 (.agg #[.bool g2,.slice (p8 4).A (p8 4).N (p8 4).C,.slice (p8 4).A' (p8 4).N' (p8 4).C']),.v 47 (.int .i64 0),.p 1 0 [.bool g2,.slice (p8 4).A (p8 4).N (p8 4).C,.slice (p8 4).A' (p8 4).N' (p8 4).C'],.v 3 (.int .i64 0)]) (fun p8=>[(2,.pointer (some ⟨(p1 1).N,0,none⟩)),(3,.int .i64 0),(4,.int .i64 0),(5,.pointer (some ⟨(p4 0).N,0,none⟩)),(11,.bool false),(37,.bool false)]) (by kernel_rfl) (fun _ _=>by kernel_rfl) (fun _=>by kernel_rfl) (fun _=>by kernel_rfl) (fun p8=>?_) (fun p8 W8 T hF hK=>?_)
 ·refine ok_v (by kernel_rfl) ?_
  iterate 3 refine ok_L (by kernel_rfl) (by kernel_rfl) (by kernel_rfl) ?_
  refine ok_c (fun W cx=>as_h cx.hb (unhide HM _ _ _ (p5 9).C _ _ (p6 4).C (Mine.num cx.G.2.2.2.1) (Mine.num cx.G.1))) (by kernel_rfl) ?_
  iterate 2 refine ok_v (by kernel_rfl) ?_
  refine ok_P (by kernel_rfl) (by kernel_rfl) (by kernel_rfl) ?_
  refine ok_v (by kernel_rfl) ?_
  exact ok_nil
 replace hS:=SymF.fb hS hF [1,2] [⟨(p1 1).N,#[.bool g2,.slice (p8 4).A (p8 4).N (p8 4).C,.slice (p8 4).A' (p8 4).N' (p8 4).C'],46,true⟩,⟨(p4 0).N,#[.int .i64 0],74,true⟩] (by kernel_rfl) (by kernel_rfl)
 replace hG:GsAt (gM W7.heap.size (p8 4).A (p8 4).N (p8 4).C R :: gM W7.heap.size (p8 4).A' (p8 4).N' (p8 4).C' S :: _) W8:=⟨And.left (hF.fx 4),And.right (hF.fx 4),hF.gx⟩
 clear hF
 have z8:=hS.fr.size
 refine wp_ret ?_
 exact sym_end hS hK (.tuple #[.agg #[.bool g2,.slice (p8 4).A (p8 4).N (p8 4).C,.slice (p8 4).A' (p8 4).N' (p8 4).C'],.int .i64 0]) [(0,0,3)] [.bool g2,.slice (p8 4).A (p8 4).N (p8 4).C,.slice (p8 4).A' (p8 4).N' (p8 4).C'] (by kernel_rfl) (by kernel_rfl) ⟨⟨_,_,_,_,_,_,rfl,Mine.mono hG.1 z7,Mine.mono hG.2.1 z7⟩,hS.fr⟩
theorem ld_any (w:World) (g:Bool) (s:ByteArray) (x:Int)  :
  Calls Tryz.prog 12 #[.bool g,.string s,.int .i64 x] w fun en w'=>en = .returned (.agg #[.bool g,.string s,.int .i64 x])∧Below w.heap.size w w':=by
 refine calls_sym Tryz.func12 rfl (by kernel_rfl) fun T hK=>?_
 replace hK:Kn T _ [(0,.bool g),(1,.string s),(2,.int .i64 x)]:=hK
 have hS:=Fb.begin w
 have hG:GsAt [] w:=trivial
 refine wp_symQ hS hG hK (fun p1=>[.n 6 #[.bool false,.string ⟨#[]⟩,.int .i64 0] 23]) (fun p1=>[(0,.bool g),(1,.string s),(2,.int .i64 x),(6,.pointer (some ⟨(p1 0).N,0,none⟩))]) (by kernel_rfl) (fun _ _=>by kernel_rfl) (fun _=>by kernel_rfl) (fun _=>by kernel_rfl) (fun p1=>?_) (fun p1 W1 T hF hK=>?_)
 ·refine ok_n (fun _=>by kernel_rfl) ?_
  exact ok_nil
 replace hS:=SymF.fb hS hF [1000] [⟨(p1 0).N,#[.bool false,.string ⟨#[]⟩,.int .i64 0],23,true⟩] (by kernel_rfl) (by kernel_rfl)
 replace hG:=hF.gx
 clear hF
 have z1:=hS.fr.size
 refine wp_symQ hS hG hK (fun p2=>[.v 7 (.bool g),.v 8 (.string s),.v 9 (.int .i64 x),.v 10 (.agg #[.bool g,.string s,.int .i64 x]),.p 0 0 [.bool g,.string s,.int .i64 x]]) (fun p2=>[(6,.pointer (some ⟨(p1 0).N,0,none⟩))]) (by kernel_rfl) (fun _ _=>by kernel_rfl) (fun _=>by kernel_rfl) (fun _=>by kernel_rfl) (fun p2=>?_) (fun p2 W2 T hF hK=>?_)
 ·iterate 4 refine ok_v (by kernel_rfl) ?_
  refine ok_P (by kernel_rfl) (by kernel_rfl) (by kernel_rfl) ?_
  exact ok_nil
 replace hS:=SymF.fb hS hF [0] [⟨(p1 0).N,#[.bool g,.string s,.int .i64 x],23,true⟩] (by kernel_rfl) (by kernel_rfl)
 replace hG:=hF.gx
 clear hF
 have z2:=hS.fr.size
 refine wp_ret ?_
 exact sym_end hS hK (.agg #[.bool g,.string s,.int .i64 x]) [(0,0,3)] [.bool g,.string s,.int .i64 x] (by kernel_rfl) (by kernel_rfl) ⟨rfl,hS.fr⟩
theorem alive_law (w:World)  (H1:Hid (∀ W:World,Calls Tryz.prog 11 #[.agg #[.bool false,.string ⟨#[57,53]⟩,.int .i64 (-1)],.agg #[.bool false,.string ⟨#[53]⟩,.int .i64 (-1)]] W fun e W'=>e = .returned (.tuple #[.agg #[.bool false,.string ⟨#[49]⟩,.int .i64 1],.int .i64 0])∧Below W.heap.size W W')) (H2:Hid (∀ W:World,Calls Tryz.prog 13 #[.agg #[.bool false,.string ⟨#[50,53]⟩,.int .i64 0],.agg #[.bool true,.string ⟨#[52]⟩,.int .i64 0]] W fun e W'=>e = .returned (.tuple #[.agg #[.bool true,.string ⟨#[49]⟩,.int .i64 2],.int .i64 0])∧Below W.heap.size W W')) (H3:Hid (∀ W:World,Calls Tryz.prog 15 #[.agg #[.bool false,.string ⟨#[49,51,53]⟩,.int .i64 0],.int .i64 2,.int .u8 0] W fun e W'=>e = .returned (.tuple #[.agg #[.bool false,.string ⟨#[49,52]⟩,.int .i64 1],.bool false,.int .i64 0])∧Below W.heap.size W W')) (H4:Hid (∀ W:World,Calls Tryz.prog 16 #[.agg #[.bool true,.string ⟨#[49]⟩,.int .i64 (-9)],.int .i64 3,.int .u8 4] W fun e W'=>e = .returned (.tuple #[.agg #[.bool true,.string ⟨#[49]⟩,.int .i64 (-3)],.bool false,.int .i64 0])∧Below W.heap.size W W')) (H5:Hid (∀ W:World,Calls Tryz.prog 6 #[.agg #[.bool false,.string ⟨#[49,50,53]⟩,.int .i64 (-1)]] W fun e W'=>e = .returned (.tuple #[.string ⟨#[49,50,46,53]⟩,.int .i64 0])∧Below W.heap.size W W')) (HR:Hid (∀ W:World,Calls Tryz.prog 17 #[.agg #[.bool false,.string ⟨#[53]⟩,.int .i64 (-1)]] W fun en W'=>(∃ a n c a' n' c',en = .returned (.tuple #[.agg #[.bool false,.slice a n c,.slice a' n' c'],.int .i64 0])∧Mine W' W.heap.size a n c 1∧Mine W' W.heap.size a' n' c' 2)∧Below W.heap.size W W')) (HL:Hid (∀ (W:World) (a:Option Addr) (n c:Nat),Num W a n 2→Calls Tryz.prog 18 #[.agg #[.slice a n c]] W fun en W'=>en = .returned (.tuple #[.int .u64 2,.bool true])∧Below W.heap.size W W')) :
  Calls Tryz.prog 4 #[] w fun en w'=>en = .returned (.bool true)∧Below w.heap.size w w':=by
 refine calls_sym Tryz.func4 rfl (by kernel_rfl) fun T hK=>?_
 replace hK:Kn T _ []:=hK
 have hS:=Fb.begin w
 have hG:GsAt [] w:=trivial
 refine wp_symQ hS hG hK (fun p1=>[.v 0 (.bool false)]) (fun p1=>[(0,.bool false)]) (by kernel_rfl) (fun _ _=>by kernel_rfl) (fun _=>by kernel_rfl) (fun _=>by kernel_rfl) (fun p1=>?_) (fun p1 W1 T hF hK=>?_)
 ·refine ok_v (by kernel_rfl) ?_
  exact ok_nil
 replace hS:=SymF.fb hS hF [] [] (by kernel_rfl) (by kernel_rfl)
 replace hG:=hF.gx
 clear hF
 have z1:=hS.fr.size
 refine wp_symQ hS hG hK (fun p2=>[.c (some 11) (cV (.agg #[.bool false,.string ⟨#[57,53]⟩,.int .i64 (-1)])),.c (some 12) (cV (.agg #[.bool false,.string ⟨#[53]⟩,.int .i64 (-1)])),.c (some 13) (cV (.tuple #[.agg #[.bool false,.string ⟨#[49]⟩,.int .i64 1],.int .i64 0])),.v 14 (.agg #[.bool false,.string ⟨#[49]⟩,.int .i64 1]),.v 15 (.int .i64 0),.c (some 16) (cV (.agg #[.bool false,.string ⟨#[49]⟩,.int .i64 1,.bool false,.int .i64 0])),.c (some 17) (cV (.agg #[.bool false,.string ⟨#[49]⟩,.int .i64 1])),.v 18 (.agg #[.bool false,.string ⟨#[49]⟩,.int .i64 1,.bool false,.int .i64 0]),.v 19 (.bool true),.v 1 (.bool true)]) (fun p2=>[(0,.bool false),(1,.bool true)]) (by kernel_rfl) (fun _ _=>by kernel_rfl) (fun _=>by kernel_rfl) (fun _=>by kernel_rfl) (fun p2=>?_) (fun p2 W2 T hF hK=>?_)
 ·refine ok_c (fun W cx=>as_v (ld_any _ false (⟨#[57,53]⟩) (-1))) (by kernel_rfl) ?_
  refine ok_c (fun W cx=>as_v (ld_any _ false (⟨#[53]⟩) (-1))) (by kernel_rfl) ?_
  refine ok_c (fun W cx=>as_v (unhide H1 _)) (by kernel_rfl) ?_
  iterate 2 refine ok_v (by kernel_rfl) ?_
  refine ok_c (fun W cx=>as_v (two_any _ false (⟨#[49]⟩) 1 0)) (by kernel_rfl) ?_
  refine ok_c (fun W cx=>as_v (ld_any _ false (⟨#[49]⟩) 1)) (by kernel_rfl) ?_
  iterate 3 refine ok_v (by kernel_rfl) ?_
  exact ok_nil
 replace hS:=SymF.fb hS hF [] [] (by kernel_rfl) (by kernel_rfl)
 replace hG:=hF.gx
 clear hF
 have z2:=hS.fr.size
 refine wp_symQ hS hG hK (fun p3=>[.c (some 20) (cV (.agg #[.bool false,.string ⟨#[50,53]⟩,.int .i64 0])),.c (some 21) (cV (.agg #[.bool true,.string ⟨#[52]⟩,.int .i64 0])),.c (some 22) (cV (.tuple #[.agg #[.bool true,.string ⟨#[49]⟩,.int .i64 2],.int .i64 0])),.v 23 (.agg #[.bool true,.string ⟨#[49]⟩,.int .i64 2]),.v 24 (.int .i64 0),.c (some 25) (cV (.agg #[.bool true,.string ⟨#[49]⟩,.int .i64 2,.bool false,.int .i64 0])),.c (some 26) (cV (.agg #[.bool true,.string ⟨#[49]⟩,.int .i64 2])),.v 27 (.agg #[.bool true,.string ⟨#[49]⟩,.int .i64 2,.bool false,.int .i64 0]),.v 28 (.bool true),.v 2 (.bool true)]) (fun p3=>[(0,.bool false),(1,.bool true),(2,.bool true)]) (by kernel_rfl) (fun _ _=>by kernel_rfl) (fun _=>by kernel_rfl) (fun _=>by kernel_rfl) (fun p3=>?_) (fun p3 W3 T hF hK=>?_)
 ·refine ok_c (fun W cx=>as_v (ld_any _ false (⟨#[50,53]⟩) 0)) (by kernel_rfl) ?_
  refine ok_c (fun W cx=>as_v (ld_any _ true (⟨#[52]⟩) 0)) (by kernel_rfl) ?_
  refine ok_c (fun W cx=>as_v (unhide H2 _)) (by kernel_rfl) ?_
  iterate 2 refine ok_v (by kernel_rfl) ?_
  refine ok_c (fun W cx=>as_v (two_any _ true (⟨#[49]⟩) 2 0)) (by kernel_rfl) ?_
  refine ok_c (fun W cx=>as_v (ld_any _ true (⟨#[49]⟩) 2)) (by kernel_rfl) ?_
  iterate 3 refine ok_v (by kernel_rfl) ?_
  exact ok_nil
 replace hS:=SymF.fb hS hF [] [] (by kernel_rfl) (by kernel_rfl)
 replace hG:=hF.gx
 clear hF
 have z3:=hS.fr.size
 refine wp_symQ hS hG hK (fun p4=>[.c (some 29) (cV (.agg #[.bool false,.string ⟨#[49,51,53]⟩,.int .i64 0])),.c (some 30) (cV (.tuple #[.agg #[.bool false,.string ⟨#[49,52]⟩,.int .i64 1],.bool false,.int .i64 0])),.v 31 (.agg #[.bool false,.string ⟨#[49,52]⟩,.int .i64 1]),.v 32 (.bool false),.v 33 (.int .i64 0),.c (some 34) (cV (.agg #[.bool false,.string ⟨#[49,52]⟩,.int .i64 1,.bool false,.int .i64 0])),.c (some 35) (cV (.agg #[.bool false,.string ⟨#[49,52]⟩,.int .i64 1])),.v 36 (.agg #[.bool false,.string ⟨#[49,52]⟩,.int .i64 1,.bool false,.int .i64 0]),.v 37 (.bool true),.v 3 (.bool true)]) (fun p4=>[(0,.bool false),(1,.bool true),(2,.bool true),(3,.bool true)]) (by kernel_rfl) (fun _ _=>by kernel_rfl) (fun _=>by kernel_rfl) (fun _=>by kernel_rfl) (fun p4=>?_) (fun p4 W4 T hF hK=>?_)
 ·refine ok_c (fun W cx=>as_v (ld_any _ false (⟨#[49,51,53]⟩) 0)) (by kernel_rfl) ?_
  refine ok_c (fun W cx=>as_v (unhide H3 _)) (by kernel_rfl) ?_
  iterate 3 refine ok_v (by kernel_rfl) ?_
  refine ok_c (fun W cx=>as_v (three_any _ false (⟨#[49,52]⟩) 1 false 0)) (by kernel_rfl) ?_
  refine ok_c (fun W cx=>as_v (ld_any _ false (⟨#[49,52]⟩) 1)) (by kernel_rfl) ?_
  iterate 3 refine ok_v (by kernel_rfl) ?_
  exact ok_nil
 replace hS:=SymF.fb hS hF [] [] (by kernel_rfl) (by kernel_rfl)
 replace hG:=hF.gx
 clear hF
 have z4:=hS.fr.size
 refine wp_symQ hS hG hK (fun p5=>[.c (some 38) (cV (.agg #[.bool true,.string ⟨#[49]⟩,.int .i64 (-9)])),.c (some 39) (cV (.tuple #[.agg #[.bool true,.string ⟨#[49]⟩,.int .i64 (-3)],.bool false,.int .i64 0])),.v 40 (.agg #[.bool true,.string ⟨#[49]⟩,.int .i64 (-3)]),.v 41 (.bool false),.v 42 (.int .i64 0),.c (some 43) (cV (.agg #[.bool true,.string ⟨#[49]⟩,.int .i64 (-3),.bool false,.int .i64 0])),.c (some 44) (cV (.agg #[.bool true,.string ⟨#[49]⟩,.int .i64 (-3)])),.v 45 (.agg #[.bool true,.string ⟨#[49]⟩,.int .i64 (-3),.bool false,.int .i64 0]),.v 46 (.bool true),.v 4 (.bool true)]) (fun p5=>[(0,.bool false),(1,.bool true),(2,.bool true),(3,.bool true),(4,.bool true)]) (by kernel_rfl) (fun _ _=>by kernel_rfl) (fun _=>by kernel_rfl) (fun _=>by kernel_rfl) (fun p5=>?_) (fun p5 W5 T hF hK=>?_)
 ·refine ok_c (fun W cx=>as_v (ld_any _ true (⟨#[49]⟩) (-9))) (by kernel_rfl) ?_
  refine ok_c (fun W cx=>as_v (unhide H4 _)) (by kernel_rfl) ?_
  iterate 3 refine ok_v (by kernel_rfl) ?_
  refine ok_c (fun W cx=>as_v (three_any _ true (⟨#[49]⟩) (-3) false 0)) (by kernel_rfl) ?_
  refine ok_c (fun W cx=>as_v (ld_any _ true (⟨#[49]⟩) (-3))) (by kernel_rfl) ?_
  iterate 3 refine ok_v (by kernel_rfl) ?_
  exact ok_nil
 replace hS:=SymF.fb hS hF [] [] (by kernel_rfl) (by kernel_rfl)
 replace hG:=hF.gx
 clear hF
 have z5:=hS.fr.size
 refine wp_symQ hS hG hK (fun p6=>[.c (some 48) (cV (.agg #[.bool false,.string ⟨#[49,50,53]⟩,.int .i64 (-1)])),.c (some 49) (cV (.tuple #[.string ⟨#[49,50,46,53]⟩,.int .i64 0])),.v 47 (.tuple #[.string ⟨#[49,50,46,53]⟩,.int .i64 0]),.v 50 (.string ⟨#[49,50,46,53]⟩),.v 51 (.int .i64 0),.v 5 (.string ⟨#[49,50,46,53]⟩),.v 6 (.int .i64 0)]) (fun p6=>[(0,.bool false),(1,.bool true),(2,.bool true),(3,.bool true),(4,.bool true),(5,.string ⟨#[49,50,46,53]⟩),(6,.int .i64 0)]) (by kernel_rfl) (fun _ _=>by kernel_rfl) (fun _=>by kernel_rfl) (fun _=>by kernel_rfl) (fun p6=>?_) (fun p6 W6 T hF hK=>?_)
 ·refine ok_c (fun W cx=>as_v (ld_any _ false (⟨#[49,50,53]⟩) (-1))) (by kernel_rfl) ?_
  refine ok_c (fun W cx=>as_v (unhide H5 _)) (by kernel_rfl) ?_
  iterate 5 refine ok_v (by kernel_rfl) ?_
  exact ok_nil
 replace hS:=SymF.fb hS hF [] [] (by kernel_rfl) (by kernel_rfl)
 replace hG:=hF.gx
 clear hF
 have z6:=hS.fr.size
 refine wp_symQ hS hG hK (fun p7=>[.c (some 53) (cV (.agg #[.bool false,.string ⟨#[53]⟩,.int .i64 (-1)])),.c (some 54) (cH W6.heap.size 1 2 fun x9 y9=>.tuple #[.agg #[.bool false,x9,y9],.int .i64 0]),.v 52 (.tuple #[.agg #[.bool false,.slice (p7 1).A (p7 1).N (p7 1).C,.slice (p7 1).A' (p7 1).N' (p7 1).C'],.int .i64 0]),.v 55 (.agg #[.bool false,.slice (p7 1).A (p7 1).N (p7 1).C,.slice (p7 1).A' (p7 1).N' (p7 1).C']),.v 56 (.int .i64 0),.n 7 #[.bool false,.slice none 0 0,.slice none 0 0] 46,.p 1005 0 [.bool false,.slice (p7 1).A (p7 1).N (p7 1).C,.slice (p7 1).A' (p7 1).N' (p7 1).C'],.v 8 (.int .i64 0)]) (fun p7=>[(0,.bool false),(1,.bool true),(2,.bool true),(3,.bool true),(4,.bool true),(5,.string ⟨#[49,50,46,53]⟩),(6,.int .i64 0),(7,.pointer (some ⟨(p7 5).N,0,none⟩)),(8,.int .i64 0)]) (by kernel_rfl) (fun _ _=>by kernel_rfl) (fun _=>by kernel_rfl) (fun _=>by kernel_rfl) (fun p7=>?_) (fun p7 W7 T hF hK=>?_)
 ·refine ok_c (fun W cx=>as_v (ld_any _ false (⟨#[53]⟩) (-1))) (by kernel_rfl) ?_
  refine ok_c (fun W cx=>as_h cx.hb (unhide HR _)) (by kernel_rfl) ?_
  iterate 3 refine ok_v (by kernel_rfl) ?_
  refine ok_n (fun _=>by kernel_rfl) ?_
  refine ok_P (by kernel_rfl) (by kernel_rfl) (by kernel_rfl) ?_
  refine ok_v (by kernel_rfl) ?_
  exact ok_nil
 replace hS:=SymF.fb hS hF [1005] [⟨(p7 5).N,#[.bool false,.slice (p7 1).A (p7 1).N (p7 1).C,.slice (p7 1).A' (p7 1).N' (p7 1).C'],46,true⟩] (by kernel_rfl) (by kernel_rfl)
 replace hG:GsAt (gM W6.heap.size (p7 1).A (p7 1).N (p7 1).C 1 :: gM W6.heap.size (p7 1).A' (p7 1).N' (p7 1).C' 2 :: _) W7:=⟨And.left (hF.fx 1),And.right (hF.fx 1),hF.gx⟩
 clear hF
 have z7:=hS.fr.size
 refine wp_symQ hS hG hK (fun p8=>[.v 58 (.pointer (some ⟨(p7 5).N,2,none⟩)),.l 59 (.agg #[.slice (p7 1).A' (p7 1).N' (p7 1).C']) 0 2,.c (some 60) (cV (.tuple #[.int .u64 2,.bool true])),.v 57 (.tuple #[.int .u64 2,.bool true]),.v 61 (.int .u64 2),.v 62 (.bool true),.v 9 (.int .u64 2),.v 10 (.bool true)]) (fun p8=>[(0,.bool false),(1,.bool true),(2,.bool true),(3,.bool true),(4,.bool true),(5,.string ⟨#[49,50,46,53]⟩),(6,.int .i64 0),(8,.int .i64 0),(9,.int .u64 2),(10,.bool true)]) (by kernel_rfl) (fun _ _=>by kernel_rfl) (fun _=>by kernel_rfl) (fun _=>by kernel_rfl) (fun p8=>?_) (fun p8 W8 T hF hK=>?_)
 ·refine ok_v (by kernel_rfl) ?_
  refine ok_L (by kernel_rfl) (by kernel_rfl) (by kernel_rfl) ?_
  refine ok_c (fun W cx=>as_v (unhide HL _ _ _ (p7 1).C' (Mine.num cx.G.2.1))) (by kernel_rfl) ?_
  iterate 5 refine ok_v (by kernel_rfl) ?_
  exact ok_nil
 replace hS:=SymF.fb hS hF [] [] (by kernel_rfl) (by kernel_rfl)
 replace hG:=hF.gx
 clear hF
 have z8:=hS.fr.size
 refine wp_symQ hS hG hK (fun p9=>[.v 63 (.bool true),.v 64 (.bool true),.v 65 (.bool true),.v 66 (.bool true),.v 67 (.bool true),.v 68 (.bool true),.v 69 (.bool true),.v 70 (.bool true),.v 71 (.bool true),.v 72 (.bool true),.v 73 (.bool true),.v 74 (.string ⟨#[49,50,46,53]⟩),.v 75 (.bool true),.v 76 (.bool true),.v 77 (.bool true),.v 78 (.int .i64 0),.v 79 (.bool true),.v 80 (.bool true),.v 81 (.bool true),.v 82 (.int .i64 0),.v 83 (.bool true),.v 84 (.bool true),.v 85 (.bool true),.v 86 (.int .u64 2),.v 87 (.bool true),.v 88 (.bool true),.v 89 (.bool true),.v 90 (.bool true),.v 91 (.bool true),.v 0 (.bool true)]) (fun p9=>[(0,.bool true)]) (by kernel_rfl) (fun _ _=>by kernel_rfl) (fun _=>by kernel_rfl) (fun _=>by kernel_rfl) (fun p9=>?_) (fun p9 W9 T hF hK=>?_)
 ·iterate 30 refine ok_v (by kernel_rfl) ?_
  exact ok_nil
 replace hS:=SymF.fb hS hF [] [] (by kernel_rfl) (by kernel_rfl)
 replace hG:=hF.gx
 clear hF
 have z9:=hS.fr.size
 refine wp_ret ?_
 exact sym_end hS hK (.bool true) [] [] (by kernel_rfl) (by kernel_rfl) ⟨rfl,hS.fr⟩
theorem dsc_1 (w:World) (g:Bool) (s:ByteArray) (x:Int) (sg dg h1 u1 u2 u3 it u4:ByteArray) (y:Int) (hx0:-1073741824≤x) (hx1:x≤1073741824) (hsg:sg.size≤1) (_hdm:dg.size≤65536) (hd1:dg.size = 1) (hit:it.size≤100) (hh1:dg.extract 0 1 = h1) (hh1s:h1.size = 1) (q1c:sg ++ h1 = u1) (hu1:u1.size≤2) (hu2:u1 = u2) (hu2s:u2.size≤65539) (q4c:u2 ++ (⟨#[101]⟩:ByteArray) = u3) (hu3:u3.size≤65540) (q5c:u3 ++ it = u4) (hy:x+(dg.size:Int) - 1 = y) (HC:Hid (∀ W:World,Calls Tryz.prog 19 #[.agg #[.bool g,.string s,.int .i64 x]] W fun e W'=>e = .returned (.int .i64 0)∧Below W.heap.size W W')) (HS:Hid (∀ W:World,Calls Tryz.prog 20 #[.agg #[.bool g,.string s,.int .i64 x]] W fun e W'=>e = .returned (.tuple #[.string sg,.string dg])∧Below W.heap.size W W')) (HI:Hid (∀ W:World,Below w.heap.size w W→Calls Tryz.prog 22 #[.int .i64 y] W fun e W'=>e = .returned (.string it)∧Below W.heap.size W W')) :
  Calls Tryz.prog 7 #[.agg #[.bool g,.string s,.int .i64 x]] w fun en w'=>en = .returned (.tuple #[.string u4,.int .i64 0])∧Below w.heap.size w w':=by
 have hto:script Tryz.prog 0 (Instr.sliceAt 9 (.string dg) none (some (.int .i64 1)) none) [] = some (.string h1,[]):=by rw [← hh1]; exact script_to Tryz.under_str (by omega) (by omega)
 have e46:(⟨#[46]⟩:ByteArray).size = 1:=rfl
 have e101:(⟨#[101]⟩:ByteArray).size = 1:=rfl
 have q1:script Tryz.prog 0 (Op.stringOp .add sg h1) [] = some (.string u1,[]):=by rw [← q1c]; exact script_cat (by omega)
 subst hu2
 have q4:script Tryz.prog 0 (Op.stringOp .add u1 ⟨#[101]⟩) [] = some (.string u3,[]):=by rw [← q4c]; exact script_cat (by omega)
 have q5:script Tryz.prog 0 (Op.stringOp .add u3 it) [] = some (.string u4,[]):=by rw [← q5c]; exact script_cat (by omega)
 refine calls_sym Tryz.func7 rfl (by kernel_rfl) fun T hK=>?_
 replace hK:Kn T _ [(0,.agg #[.bool g,.string s,.int .i64 x])]:=hK
 have hS:=Fb.begin w
 have hG:GsAt [] w:=trivial
 refine wp_symQ hS hG hK (fun p1=>[.n 1 #[.bool g,.string s,.int .i64 x] 23,.v 2 (.string { data:=#[] }),.v 3 (.int .i64 0)]) (fun p1=>[(1,.pointer (some ⟨(p1 0).N,0,none⟩)),(2,.string { data:=#[] }),(3,.int .i64 0)]) (by kernel_rfl) (fun _ _=>by kernel_rfl) (fun _=>by kernel_rfl) (fun _=>by kernel_rfl) (fun p1=>?_) (fun p1 W1 T hF hK=>?_)
 ·refine ok_n (fun _=>by kernel_rfl) ?_
  iterate 2 refine ok_v (by kernel_rfl) ?_
  exact ok_nil
 replace hS:=SymF.fb hS hF [1000] [⟨(p1 0).N,#[.bool g,.string s,.int .i64 x],23,true⟩] (by kernel_rfl) (by kernel_rfl)
 replace hG:=hF.gx
 clear hF
 have z1:=hS.fr.size
 refine wp_seq ?_
 refine wp_symQ hS hG hK (fun p2=>[.l 8 (.agg #[.bool g,.string s,.int .i64 x]) 0 0,.c (some 9) (cV (.int .i64 0)),.v 4 (.int .i64 0)]) (fun p2=>[(1,.pointer (some ⟨(p1 0).N,0,none⟩)),(2,.string { data:=#[] }),(3,.int .i64 0),(4,.int .i64 0)]) (by kernel_rfl) (fun _ _=>by kernel_rfl) (fun _=>by kernel_rfl) (fun _=>by kernel_rfl) (fun p2=>?_) (fun p2 W2 T hF hK=>?_)
 ·refine ok_L (by kernel_rfl) (by kernel_rfl) (by kernel_rfl) ?_
  refine ok_c (fun W cx=>as_v (unhide HC _)) (by kernel_rfl) ?_
  refine ok_v (by kernel_rfl) ?_
  exact ok_nil
 replace hS:=SymF.fb hS hF [0] [⟨(p1 0).N,#[.bool g,.string s,.int .i64 x],23,true⟩] (by kernel_rfl) (by kernel_rfl)
 replace hG:=hF.gx
 clear hF
 have z2:=hS.fr.size
 refine wp_symQ hS hG hK (fun p3=>[.v 10 (.int .i64 0),.v 11 (.bool false)]) (fun p3=>[(1,.pointer (some ⟨(p1 0).N,0,none⟩)),(2,.string { data:=#[] }),(3,.int .i64 0),(4,.int .i64 0),(11,.bool false)]) (by kernel_rfl) (fun _ _=>by kernel_rfl) (fun _=>by kernel_rfl) (fun _=>by kernel_rfl) (fun p3=>?_) (fun p3 W3 T hF hK=>?_)
 ·iterate 2 refine ok_v (by kernel_rfl) ?_
  exact ok_nil
 replace hS:=SymF.fb hS hF [0] [⟨(p1 0).N,#[.bool g,.string s,.int .i64 x],23,true⟩] (by kernel_rfl) (by kernel_rfl)
 replace hG:=hF.gx
 clear hF
 have z3:=hS.fr.size
 refine wp_cond_false (hK.ev 11 (by kernel_rfl) _ (by kernel_rfl)) ?_
 refine wp_skip ?_
 refine then_n ?_
 refine wp_symQ hS hG hK (fun p4=>[.l 14 (.agg #[.bool g,.string s,.int .i64 x]) 0 0,.c (some 15) (cV (.tuple #[.string sg,.string dg])),.v 13 (.tuple #[.string sg,.string dg]),.v 16 (.string sg),.v 17 (.string dg),.v 5 (.string sg),.v 6 (.string dg)]) (fun p4=>[(1,.pointer (some ⟨(p1 0).N,0,none⟩)),(2,.string { data:=#[] }),(3,.int .i64 0),(4,.int .i64 0),(5,.string sg),(6,.string dg),(11,.bool false)]) (by kernel_rfl) (fun _ _=>by kernel_rfl) (fun _=>by kernel_rfl) (fun _=>by kernel_rfl) (fun p4=>?_) (fun p4 W4 T hF hK=>?_)
 ·refine ok_L (by kernel_rfl) (by kernel_rfl) (by kernel_rfl) ?_
  refine ok_c (fun W cx=>as_v (unhide HS _)) (by kernel_rfl) ?_
  iterate 5 refine ok_v (by kernel_rfl) ?_
  exact ok_nil
 replace hS:=SymF.fb hS hF [0] [⟨(p1 0).N,#[.bool g,.string s,.int .i64 x],23,true⟩] (by kernel_rfl) (by kernel_rfl)
 replace hG:=hF.gx
 clear hF
 have z4:=hS.fr.size
 refine wp_symQ hS hG hK (fun p5=>[.v 18 (.string sg),.v 19 (.string dg),.v 20 (.string h1),.v 21 (.string u1),.v 7 (.string u1)]) (fun p5=>[(1,.pointer (some ⟨(p1 0).N,0,none⟩)),(2,.string { data:=#[] }),(3,.int .i64 0),(4,.int .i64 0),(6,.string dg),(7,.string u1),(11,.bool false)]) (by kernel_rfl) (fun _ _=>by kernel_rfl) (fun _=>by kernel_rfl) (fun _=>by kernel_rfl) (fun p5=>?_) (fun p5 W5 T hF hK=>?_)
 ·iterate 2 refine ok_v (by kernel_rfl) ?_
  refine ok_vr (hto) (by kernel_rfl) ?_
  refine ok_vr (q1) (by kernel_rfl) ?_
  refine ok_v (by kernel_rfl) ?_
  exact ok_nil
 replace hS:=SymF.fb hS hF [0] [⟨(p1 0).N,#[.bool g,.string s,.int .i64 x],23,true⟩] (by kernel_rfl) (by kernel_rfl)
 replace hG:=hF.gx
 clear hF
 have z5:=hS.fr.size
 refine wp_seq ?_
 refine wp_symQ hS hG hK (fun p6=>[.v 22 (.string dg),.v 23 (.int .i64 (dg.size:Int)),.v 24 (.bool false)]) (fun p6=>[(1,.pointer (some ⟨(p1 0).N,0,none⟩)),(2,.string { data:=#[] }),(3,.int .i64 0),(4,.int .i64 0),(6,.string dg),(7,.string u1),(11,.bool false),(24,.bool false)]) (by kernel_rfl) (fun _ _=>by kernel_rfl) (fun _=>by kernel_rfl) (fun _=>by kernel_rfl) (fun p6=>?_) (fun p6 W6 T hF hK=>?_)
 ·iterate 2 refine ok_v (by kernel_rfl) ?_
  refine ok_vb (decide_eq_false (show ¬ (dg.size:Int) > 1 by omega)) (by kernel_rfl) ?_
  exact ok_nil
 replace hS:=SymF.fb hS hF [0] [⟨(p1 0).N,#[.bool g,.string s,.int .i64 x],23,true⟩] (by kernel_rfl) (by kernel_rfl)
 replace hG:=hF.gx
 clear hF
 have z6:=hS.fr.size
 refine wp_cond_false (hK.ev 24 (by kernel_rfl) _ (by kernel_rfl)) ?_
 refine wp_skip ?_
 refine then_n ?_
 refine wp_symQ hS hG hK (fun p7=>[.v 30 (.string u1),.v 31 (.string u3),.v 32 (.pointer (some ⟨(p1 0).N,2,none⟩)),.l 33 (.int .i64 x) 0 2,.v 34 (.string dg),.v 35 (.int .i64 (dg.size:Int)),.v 36 (.int .i64 (x+(dg.size:Int))),.v 37 (.int .i64 y),.c (some 38) (cV (.string it)),.v 39 (.string u4),.v 2 (.string u4),.v 3 (.int .i64 0)]) (fun p7=>[(2,.string u4),(3,.int .i64 0),(4,.int .i64 0),(6,.string dg),(7,.string u1),(11,.bool false),(24,.bool false)]) (by kernel_rfl) (fun _ _=>by kernel_rfl) (fun _=>by kernel_rfl) (fun _=>by kernel_rfl) (fun p7=>?_) (fun p7 W7 T hF hK=>?_)
 ·refine ok_v (by kernel_rfl) ?_
  refine ok_vr (q4) (by kernel_rfl) ?_
  refine ok_v (by kernel_rfl) ?_
  refine ok_L (by kernel_rfl) (by kernel_rfl) (by kernel_rfl) ?_
  iterate 2 refine ok_v (by kernel_rfl) ?_
  refine ok_vi (wr64 (x:=x+(dg.size:Int)) (by omega) (by omega)) (by kernel_rfl) ?_
  refine ok_vi ((wr64 (x:=x+(dg.size:Int) - 1) (by omega) (by omega)).trans hy) (by kernel_rfl) ?_
  refine ok_c (fun W cx=>as_v (unhide HI _ cx.fr)) (by kernel_rfl) ?_
  refine ok_vr (q5) (by kernel_rfl) ?_
  iterate 2 refine ok_v (by kernel_rfl) ?_
  exact ok_nil
 replace hS:=SymF.fb hS hF [] [] (by kernel_rfl) (by kernel_rfl)
 replace hG:=hF.gx
 clear hF
 have z7:=hS.fr.size
 refine wp_ret ?_
 exact sym_end hS hK (.tuple #[.string u4,.int .i64 0]) [] [] (by kernel_rfl) (by kernel_rfl) ⟨rfl,hS.fr⟩
theorem dsc_n (w:World) (g:Bool) (s:ByteArray) (x:Int) (sg dg h1 u1 r1 pp u2 u3 it u4:ByteArray) (y:Int) (hx0:-1073741824≤x) (hx1:x≤1073741824) (hsg:sg.size≤1) (hdm:dg.size≤65536) (hd1:1 < dg.size) (hit:it.size≤100) (hh1:dg.extract 0 1 = h1) (hh1s:h1.size = 1) (q1c:sg ++ h1 = u1) (hu1:u1.size≤2) (hr1:dg.extract 1 dg.size = r1) (hr1s:r1.size≤65536) (q2c:(⟨#[46]⟩:ByteArray) ++ r1 = pp) (hp1:pp.size≤65537) (q3c:u1 ++ pp = u2) (hu2s:u2.size≤65539) (q4c:u2 ++ (⟨#[101]⟩:ByteArray) = u3) (hu3:u3.size≤65540) (q5c:u3 ++ it = u4) (hy:x+(dg.size:Int) - 1 = y) (HC:Hid (∀ W:World,Calls Tryz.prog 19 #[.agg #[.bool g,.string s,.int .i64 x]] W fun e W'=>e = .returned (.int .i64 0)∧Below W.heap.size W W')) (HS:Hid (∀ W:World,Calls Tryz.prog 20 #[.agg #[.bool g,.string s,.int .i64 x]] W fun e W'=>e = .returned (.tuple #[.string sg,.string dg])∧Below W.heap.size W W')) (HI:Hid (∀ W:World,Below w.heap.size w W→Calls Tryz.prog 22 #[.int .i64 y] W fun e W'=>e = .returned (.string it)∧Below W.heap.size W W')) :
  Calls Tryz.prog 7 #[.agg #[.bool g,.string s,.int .i64 x]] w fun en w'=>en = .returned (.tuple #[.string u4,.int .i64 0])∧Below w.heap.size w w':=by
 have hto:script Tryz.prog 0 (Instr.sliceAt 9 (.string dg) none (some (.int .i64 1)) none) [] = some (.string h1,[]):=by rw [← hh1]; exact script_to Tryz.under_str (by omega) (by omega)
 have e46:(⟨#[46]⟩:ByteArray).size = 1:=rfl
 have e101:(⟨#[101]⟩:ByteArray).size = 1:=rfl
 have q1:script Tryz.prog 0 (Op.stringOp .add sg h1) [] = some (.string u1,[]):=by rw [← q1c]; exact script_cat (by omega)
 have hfr:script Tryz.prog 0 (Instr.sliceAt 9 (.string dg) (some (.int .i64 1)) none none) [] = some (.string r1,[]):=by rw [← hr1]; exact script_from Tryz.under_str (by omega) (by omega)
 have q2:script Tryz.prog 0 (Op.stringOp .add ⟨#[46]⟩ r1) [] = some (.string pp,[]):=by rw [← q2c]; exact script_cat (by omega)
 have q3:script Tryz.prog 0 (Op.stringOp .add u1 pp) [] = some (.string u2,[]):=by rw [← q3c]; exact script_cat (by omega)
 have q4:script Tryz.prog 0 (Op.stringOp .add u2 ⟨#[101]⟩) [] = some (.string u3,[]):=by rw [← q4c]; exact script_cat (by omega)
 have q5:script Tryz.prog 0 (Op.stringOp .add u3 it) [] = some (.string u4,[]):=by rw [← q5c]; exact script_cat (by omega)
 refine calls_sym Tryz.func7 rfl (by kernel_rfl) fun T hK=>?_
 replace hK:Kn T _ [(0,.agg #[.bool g,.string s,.int .i64 x])]:=hK
 have hS:=Fb.begin w
 have hG:GsAt [] w:=trivial
 refine wp_symQ hS hG hK (fun p1=>[.n 1 #[.bool g,.string s,.int .i64 x] 23,.v 2 (.string { data:=#[] }),.v 3 (.int .i64 0)]) (fun p1=>[(1,.pointer (some ⟨(p1 0).N,0,none⟩)),(2,.string { data:=#[] }),(3,.int .i64 0)]) (by kernel_rfl) (fun _ _=>by kernel_rfl) (fun _=>by kernel_rfl) (fun _=>by kernel_rfl) (fun p1=>?_) (fun p1 W1 T hF hK=>?_)
 ·refine ok_n (fun _=>by kernel_rfl) ?_
  iterate 2 refine ok_v (by kernel_rfl) ?_
  exact ok_nil
 replace hS:=SymF.fb hS hF [1000] [⟨(p1 0).N,#[.bool g,.string s,.int .i64 x],23,true⟩] (by kernel_rfl) (by kernel_rfl)
 replace hG:=hF.gx
 clear hF
 have z1:=hS.fr.size
 refine wp_seq ?_
 refine wp_symQ hS hG hK (fun p2=>[.l 8 (.agg #[.bool g,.string s,.int .i64 x]) 0 0,.c (some 9) (cV (.int .i64 0)),.v 4 (.int .i64 0)]) (fun p2=>[(1,.pointer (some ⟨(p1 0).N,0,none⟩)),(2,.string { data:=#[] }),(3,.int .i64 0),(4,.int .i64 0)]) (by kernel_rfl) (fun _ _=>by kernel_rfl) (fun _=>by kernel_rfl) (fun _=>by kernel_rfl) (fun p2=>?_) (fun p2 W2 T hF hK=>?_)
 ·refine ok_L (by kernel_rfl) (by kernel_rfl) (by kernel_rfl) ?_
  refine ok_c (fun W cx=>as_v (unhide HC _)) (by kernel_rfl) ?_
  refine ok_v (by kernel_rfl) ?_
  exact ok_nil
 replace hS:=SymF.fb hS hF [0] [⟨(p1 0).N,#[.bool g,.string s,.int .i64 x],23,true⟩] (by kernel_rfl) (by kernel_rfl)
 replace hG:=hF.gx
 clear hF
 have z2:=hS.fr.size
 refine wp_symQ hS hG hK (fun p3=>[.v 10 (.int .i64 0),.v 11 (.bool false)]) (fun p3=>[(1,.pointer (some ⟨(p1 0).N,0,none⟩)),(2,.string { data:=#[] }),(3,.int .i64 0),(4,.int .i64 0),(11,.bool false)]) (by kernel_rfl) (fun _ _=>by kernel_rfl) (fun _=>by kernel_rfl) (fun _=>by kernel_rfl) (fun p3=>?_) (fun p3 W3 T hF hK=>?_)
 ·iterate 2 refine ok_v (by kernel_rfl) ?_
  exact ok_nil
 replace hS:=SymF.fb hS hF [0] [⟨(p1 0).N,#[.bool g,.string s,.int .i64 x],23,true⟩] (by kernel_rfl) (by kernel_rfl)
 replace hG:=hF.gx
 clear hF
 have z3:=hS.fr.size
 refine wp_cond_false (hK.ev 11 (by kernel_rfl) _ (by kernel_rfl)) ?_
 refine wp_skip ?_
 refine then_n ?_
 refine wp_symQ hS hG hK (fun p4=>[.l 14 (.agg #[.bool g,.string s,.int .i64 x]) 0 0,.c (some 15) (cV (.tuple #[.string sg,.string dg])),.v 13 (.tuple #[.string sg,.string dg]),.v 16 (.string sg),.v 17 (.string dg),.v 5 (.string sg),.v 6 (.string dg)]) (fun p4=>[(1,.pointer (some ⟨(p1 0).N,0,none⟩)),(2,.string { data:=#[] }),(3,.int .i64 0),(4,.int .i64 0),(5,.string sg),(6,.string dg),(11,.bool false)]) (by kernel_rfl) (fun _ _=>by kernel_rfl) (fun _=>by kernel_rfl) (fun _=>by kernel_rfl) (fun p4=>?_) (fun p4 W4 T hF hK=>?_)
 ·refine ok_L (by kernel_rfl) (by kernel_rfl) (by kernel_rfl) ?_
  refine ok_c (fun W cx=>as_v (unhide HS _)) (by kernel_rfl) ?_
  iterate 5 refine ok_v (by kernel_rfl) ?_
  exact ok_nil
 replace hS:=SymF.fb hS hF [0] [⟨(p1 0).N,#[.bool g,.string s,.int .i64 x],23,true⟩] (by kernel_rfl) (by kernel_rfl)
 replace hG:=hF.gx
 clear hF
 have z4:=hS.fr.size
 refine wp_symQ hS hG hK (fun p5=>[.v 18 (.string sg),.v 19 (.string dg),.v 20 (.string h1),.v 21 (.string u1),.v 7 (.string u1)]) (fun p5=>[(1,.pointer (some ⟨(p1 0).N,0,none⟩)),(2,.string { data:=#[] }),(3,.int .i64 0),(4,.int .i64 0),(6,.string dg),(7,.string u1),(11,.bool false)]) (by kernel_rfl) (fun _ _=>by kernel_rfl) (fun _=>by kernel_rfl) (fun _=>by kernel_rfl) (fun p5=>?_) (fun p5 W5 T hF hK=>?_)
 ·iterate 2 refine ok_v (by kernel_rfl) ?_
  refine ok_vr (hto) (by kernel_rfl) ?_
  refine ok_vr (q1) (by kernel_rfl) ?_
  refine ok_v (by kernel_rfl) ?_
  exact ok_nil
 replace hS:=SymF.fb hS hF [0] [⟨(p1 0).N,#[.bool g,.string s,.int .i64 x],23,true⟩] (by kernel_rfl) (by kernel_rfl)
 replace hG:=hF.gx
 clear hF
 have z5:=hS.fr.size
 refine wp_seq ?_
 refine wp_symQ hS hG hK (fun p6=>[.v 22 (.string dg),.v 23 (.int .i64 (dg.size:Int)),.v 24 (.bool true)]) (fun p6=>[(1,.pointer (some ⟨(p1 0).N,0,none⟩)),(2,.string { data:=#[] }),(3,.int .i64 0),(4,.int .i64 0),(6,.string dg),(7,.string u1),(11,.bool false),(24,.bool true)]) (by kernel_rfl) (fun _ _=>by kernel_rfl) (fun _=>by kernel_rfl) (fun _=>by kernel_rfl) (fun p6=>?_) (fun p6 W6 T hF hK=>?_)
 ·iterate 2 refine ok_v (by kernel_rfl) ?_
  refine ok_vb (decide_eq_true (show (dg.size:Int) > 1 by omega)) (by kernel_rfl) ?_
  exact ok_nil
 replace hS:=SymF.fb hS hF [0] [⟨(p1 0).N,#[.bool g,.string s,.int .i64 x],23,true⟩] (by kernel_rfl) (by kernel_rfl)
 replace hG:=hF.gx
 clear hF
 have z6:=hS.fr.size
 refine wp_cond_true (hK.ev 24 (by kernel_rfl) _ (by kernel_rfl)) ?_
 refine wp_symG hS hG hK (fun p7=>[.v 25 (.string u1),.v 26 (.string dg),.v 27 (.string r1),.v 28 (.string pp),.v 29 (.string u2),.v 7 (.string u2)]) (fun p7=>[(1,.pointer (some ⟨(p1 0).N,0,none⟩)),(2,.string { data:=#[] }),(3,.int .i64 0),(4,.int .i64 0),(6,.string dg),(7,.string u2),(11,.bool false),(24,.bool true)]) (by kernel_rfl) (fun _ _=>by kernel_rfl) (fun _=>by kernel_rfl) (fun _=>by kernel_rfl) (fun p7=>?_) (fun p7 W7 T hF hK=>?_)
 ·iterate 2 refine ok_v (by kernel_rfl) ?_
  refine ok_vr (hfr) (by kernel_rfl) ?_
  refine ok_vr (q2) (by kernel_rfl) ?_
  refine ok_vr (q3) (by kernel_rfl) ?_
  refine ok_v (by kernel_rfl) ?_
  exact ok_nil
 replace hS:=SymF.fb hS hF [0] [⟨(p1 0).N,#[.bool g,.string s,.int .i64 x],23,true⟩] (by kernel_rfl) (by kernel_rfl)
 replace hG:=hF.gx
 clear hF
 have z7:=hS.fr.size
 refine then_n ?_
 refine wp_symQ hS hG hK (fun p8=>[.v 30 (.string u2),.v 31 (.string u3),.v 32 (.pointer (some ⟨(p1 0).N,2,none⟩)),.l 33 (.int .i64 x) 0 2,.v 34 (.string dg),.v 35 (.int .i64 (dg.size:Int)),.v 36 (.int .i64 (x+(dg.size:Int))),.v 37 (.int .i64 y),.c (some 38) (cV (.string it)),.v 39 (.string u4),.v 2 (.string u4),.v 3 (.int .i64 0)]) (fun p8=>[(2,.string u4),(3,.int .i64 0),(4,.int .i64 0),(11,.bool false),(24,.bool true)]) (by kernel_rfl) (fun _ _=>by kernel_rfl) (fun _=>by kernel_rfl) (fun _=>by kernel_rfl) (fun p8=>?_) (fun p8 W8 T hF hK=>?_)
 ·refine ok_v (by kernel_rfl) ?_
  refine ok_vr (q4) (by kernel_rfl) ?_
  refine ok_v (by kernel_rfl) ?_
  refine ok_L (by kernel_rfl) (by kernel_rfl) (by kernel_rfl) ?_
  iterate 2 refine ok_v (by kernel_rfl) ?_
  refine ok_vi (wr64 (x:=x+(dg.size:Int)) (by omega) (by omega)) (by kernel_rfl) ?_
  refine ok_vi ((wr64 (x:=x+(dg.size:Int) - 1) (by omega) (by omega)).trans hy) (by kernel_rfl) ?_
  refine ok_c (fun W cx=>as_v (unhide HI _ cx.fr)) (by kernel_rfl) ?_
  refine ok_vr (q5) (by kernel_rfl) ?_
  iterate 2 refine ok_v (by kernel_rfl) ?_
  exact ok_nil
 replace hS:=SymF.fb hS hF [] [] (by kernel_rfl) (by kernel_rfl)
 replace hG:=hF.gx
 clear hF
 have z8:=hS.fr.size
 refine wp_ret ?_
 exact sym_end hS hK (.tuple #[.string u4,.int .i64 0]) [] [] (by kernel_rfl) (by kernel_rfl) ⟨rfl,hS.fr⟩
theorem cl_e (w:World) (g:Bool) (s:ByteArray) (x:Int) (e1:Int) (he:e1≠0) (HC:Hid (∀ W:World,Calls Tryz.prog 19 #[.agg #[.bool g,.string s,.int .i64 x]] W fun e W'=>e = .returned (.int .i64 e1)∧Below W.heap.size W W')) :
  Calls Tryz.prog 5 #[.agg #[.bool g,.string s,.int .i64 x],.int .i64 3000,.int .i64 3000] w fun en w'=>en = .returned (.bool false)∧Below w.heap.size w w':=by
 refine calls_sym Tryz.func5 rfl (by kernel_rfl) fun T hK=>?_
 replace hK:Kn T _ [(0,.agg #[.bool g,.string s,.int .i64 x]),(1,.int .i64 3000),(2,.int .i64 3000)]:=hK
 have hS:=Fb.begin w
 have hG:GsAt [] w:=trivial
 refine wp_symQ hS hG hK (fun p1=>[.n 3 #[.bool g,.string s,.int .i64 x] 23,.v 6 (.bool false)]) (fun p1=>[(1,.int .i64 3000),(2,.int .i64 3000),(3,.pointer (some ⟨(p1 0).N,0,none⟩)),(6,.bool false)]) (by kernel_rfl) (fun _ _=>by kernel_rfl) (fun _=>by kernel_rfl) (fun _=>by kernel_rfl) (fun p1=>?_) (fun p1 W1 T hF hK=>?_)
 ·refine ok_n (fun _=>by kernel_rfl) ?_
  refine ok_v (by kernel_rfl) ?_
  exact ok_nil
 replace hS:=SymF.fb hS hF [1000] [⟨(p1 0).N,#[.bool g,.string s,.int .i64 x],23,true⟩] (by kernel_rfl) (by kernel_rfl)
 replace hG:=hF.gx
 clear hF
 have z1:=hS.fr.size
 refine wp_symQ hS hG hK (fun p2=>[.l 7 (.agg #[.bool g,.string s,.int .i64 x]) 0 0,.c (some 8) (cV (.int .i64 e1)),.v 9 (.bool false),.v 10 (.bool false),.k (some 11),.k (some 12),.k (some 13),.k (some 14),.k (some 15),.v 16 (.bool false),.v 17 (.bool false),.k (some 18),.k (some 19),.k (some 20),.k (some 21),.v 22 (.bool false),.v 23 (.bool false),.k (some 24),.k (some 25),.k (some 26),.k (some 27),.k (some 28),.v 29 (.bool false),.v 6 (.bool false)]) (fun p2=>[(6,.bool false)]) (by kernel_rfl) (fun _ _=>by kernel_rfl) (fun _=>by kernel_rfl) (fun _=>by kernel_rfl) (fun p2=>?_) (fun p2 W2 T hF hK=>?_)
 ·refine ok_L (by kernel_rfl) (by kernel_rfl) (by kernel_rfl) ?_
  refine ok_c (fun W cx=>as_v (unhide HC _)) (by kernel_rfl) ?_
  refine ok_vb (beq_false_of_ne he) (by kernel_rfl) ?_
  refine ok_v (by kernel_rfl) ?_
  iterate 5 refine ok_K (by kernel_rfl) ?_
  iterate 2 refine ok_v (by kernel_rfl) ?_
  iterate 4 refine ok_K (by kernel_rfl) ?_
  iterate 2 refine ok_v (by kernel_rfl) ?_
  iterate 5 refine ok_K (by kernel_rfl) ?_
  iterate 2 refine ok_v (by kernel_rfl) ?_
  exact ok_nil
 replace hS:=SymF.fb hS hF [] [] (by kernel_rfl) (by kernel_rfl)
 replace hG:=hF.gx
 clear hF
 have z2:=hS.fr.size
 refine wp_ret ?_
 exact sym_end hS hK (.bool false) [] [] (by kernel_rfl) (by kernel_rfl) ⟨rfl,hS.fr⟩
theorem cl_1 (w:World) (g:Bool) (s:ByteArray) (x:Int) (h1:3000 < s.size) (HC:Hid (∀ W:World,Calls Tryz.prog 19 #[.agg #[.bool g,.string s,.int .i64 x]] W fun e W'=>e = .returned (.int .i64 0)∧Below W.heap.size W W')) :
  Calls Tryz.prog 5 #[.agg #[.bool g,.string s,.int .i64 x],.int .i64 3000,.int .i64 3000] w fun en w'=>en = .returned (.bool false)∧Below w.heap.size w w':=by
 refine calls_sym Tryz.func5 rfl (by kernel_rfl) fun T hK=>?_
 replace hK:Kn T _ [(0,.agg #[.bool g,.string s,.int .i64 x]),(1,.int .i64 3000),(2,.int .i64 3000)]:=hK
 have hS:=Fb.begin w
 have hG:GsAt [] w:=trivial
 refine wp_symQ hS hG hK (fun p1=>[.n 3 #[.bool g,.string s,.int .i64 x] 23,.v 6 (.bool false)]) (fun p1=>[(1,.int .i64 3000),(2,.int .i64 3000),(3,.pointer (some ⟨(p1 0).N,0,none⟩)),(6,.bool false)]) (by kernel_rfl) (fun _ _=>by kernel_rfl) (fun _=>by kernel_rfl) (fun _=>by kernel_rfl) (fun p1=>?_) (fun p1 W1 T hF hK=>?_)
 ·refine ok_n (fun _=>by kernel_rfl) ?_
  refine ok_v (by kernel_rfl) ?_
  exact ok_nil
 replace hS:=SymF.fb hS hF [1000] [⟨(p1 0).N,#[.bool g,.string s,.int .i64 x],23,true⟩] (by kernel_rfl) (by kernel_rfl)
 replace hG:=hF.gx
 clear hF
 have z1:=hS.fr.size
 refine wp_symQ hS hG hK (fun p2=>[.l 7 (.agg #[.bool g,.string s,.int .i64 x]) 0 0,.c (some 8) (cV (.int .i64 0)),.v 9 (.bool true),.v 10 (.bool true),.v 11 (.pointer (some ⟨(p1 0).N,1,none⟩)),.l 12 (.string s) 0 1,.v 13 (.int .i64 (s.size:Int)),.v 14 (.int .i64 3000),.v 15 (.bool false),.v 16 (.bool false),.v 17 (.bool false),.k (some 18),.k (some 19),.k (some 20),.k (some 21),.v 22 (.bool false),.v 23 (.bool false),.k (some 24),.k (some 25),.k (some 26),.k (some 27),.k (some 28),.v 29 (.bool false),.v 6 (.bool false)]) (fun p2=>[(6,.bool false)]) (by kernel_rfl) (fun _ _=>by kernel_rfl) (fun _=>by kernel_rfl) (fun _=>by kernel_rfl) (fun p2=>?_) (fun p2 W2 T hF hK=>?_)
 ·refine ok_L (by kernel_rfl) (by kernel_rfl) (by kernel_rfl) ?_
  refine ok_c (fun W cx=>as_v (unhide HC _)) (by kernel_rfl) ?_
  iterate 3 refine ok_v (by kernel_rfl) ?_
  refine ok_L (by kernel_rfl) (by kernel_rfl) (by kernel_rfl) ?_
  iterate 2 refine ok_v (by kernel_rfl) ?_
  refine ok_vb (decide_eq_false (show ¬ (s.size:Int)≤3000 by omega)) (by kernel_rfl) ?_
  iterate 2 refine ok_v (by kernel_rfl) ?_
  iterate 4 refine ok_K (by kernel_rfl) ?_
  iterate 2 refine ok_v (by kernel_rfl) ?_
  iterate 5 refine ok_K (by kernel_rfl) ?_
  iterate 2 refine ok_v (by kernel_rfl) ?_
  exact ok_nil
 replace hS:=SymF.fb hS hF [] [] (by kernel_rfl) (by kernel_rfl)
 replace hG:=hF.gx
 clear hF
 have z2:=hS.fr.size
 refine wp_ret ?_
 exact sym_end hS hK (.bool false) [] [] (by kernel_rfl) (by kernel_rfl) ⟨rfl,hS.fr⟩
theorem cl_2 (w:World) (g:Bool) (s:ByteArray) (x:Int) (h1:s.size≤3000) (h2:3000 < x) (HC:Hid (∀ W:World,Calls Tryz.prog 19 #[.agg #[.bool g,.string s,.int .i64 x]] W fun e W'=>e = .returned (.int .i64 0)∧Below W.heap.size W W')) :
  Calls Tryz.prog 5 #[.agg #[.bool g,.string s,.int .i64 x],.int .i64 3000,.int .i64 3000] w fun en w'=>en = .returned (.bool false)∧Below w.heap.size w w':=by
 refine calls_sym Tryz.func5 rfl (by kernel_rfl) fun T hK=>?_
 replace hK:Kn T _ [(0,.agg #[.bool g,.string s,.int .i64 x]),(1,.int .i64 3000),(2,.int .i64 3000)]:=hK
 have hS:=Fb.begin w
 have hG:GsAt [] w:=trivial
 refine wp_symQ hS hG hK (fun p1=>[.n 3 #[.bool g,.string s,.int .i64 x] 23,.v 6 (.bool false)]) (fun p1=>[(1,.int .i64 3000),(2,.int .i64 3000),(3,.pointer (some ⟨(p1 0).N,0,none⟩)),(6,.bool false)]) (by kernel_rfl) (fun _ _=>by kernel_rfl) (fun _=>by kernel_rfl) (fun _=>by kernel_rfl) (fun p1=>?_) (fun p1 W1 T hF hK=>?_)
 ·refine ok_n (fun _=>by kernel_rfl) ?_
  refine ok_v (by kernel_rfl) ?_
  exact ok_nil
 replace hS:=SymF.fb hS hF [1000] [⟨(p1 0).N,#[.bool g,.string s,.int .i64 x],23,true⟩] (by kernel_rfl) (by kernel_rfl)
 replace hG:=hF.gx
 clear hF
 have z1:=hS.fr.size
 refine wp_symQ hS hG hK (fun p2=>[.l 7 (.agg #[.bool g,.string s,.int .i64 x]) 0 0,.c (some 8) (cV (.int .i64 0)),.v 9 (.bool true),.v 10 (.bool true),.v 11 (.pointer (some ⟨(p1 0).N,1,none⟩)),.l 12 (.string s) 0 1,.v 13 (.int .i64 (s.size:Int)),.v 14 (.int .i64 3000),.v 15 (.bool true),.v 16 (.bool true),.v 17 (.bool true),.v 18 (.pointer (some ⟨(p1 0).N,2,none⟩)),.l 19 (.int .i64 x) 0 2,.v 20 (.int .i64 3000),.v 21 (.bool false),.v 22 (.bool false),.v 23 (.bool false),.k (some 24),.k (some 25),.k (some 26),.k (some 27),.k (some 28),.v 29 (.bool false),.v 6 (.bool false)]) (fun p2=>[(6,.bool false)]) (by kernel_rfl) (fun _ _=>by kernel_rfl) (fun _=>by kernel_rfl) (fun _=>by kernel_rfl) (fun p2=>?_) (fun p2 W2 T hF hK=>?_)
 ·refine ok_L (by kernel_rfl) (by kernel_rfl) (by kernel_rfl) ?_
  refine ok_c (fun W cx=>as_v (unhide HC _)) (by kernel_rfl) ?_
  iterate 3 refine ok_v (by kernel_rfl) ?_
  refine ok_L (by kernel_rfl) (by kernel_rfl) (by kernel_rfl) ?_
  iterate 2 refine ok_v (by kernel_rfl) ?_
  refine ok_vb (decide_eq_true (show (s.size:Int)≤3000 by omega)) (by kernel_rfl) ?_
  iterate 3 refine ok_v (by kernel_rfl) ?_
  refine ok_L (by kernel_rfl) (by kernel_rfl) (by kernel_rfl) ?_
  refine ok_v (by kernel_rfl) ?_
  refine ok_vb (decide_eq_false (show ¬ x≤3000 by omega)) (by kernel_rfl) ?_
  iterate 2 refine ok_v (by kernel_rfl) ?_
  iterate 5 refine ok_K (by kernel_rfl) ?_
  iterate 2 refine ok_v (by kernel_rfl) ?_
  exact ok_nil
 replace hS:=SymF.fb hS hF [] [] (by kernel_rfl) (by kernel_rfl)
 replace hG:=hF.gx
 clear hF
 have z2:=hS.fr.size
 refine wp_ret ?_
 exact sym_end hS hK (.bool false) [] [] (by kernel_rfl) (by kernel_rfl) ⟨rfl,hS.fr⟩
theorem cl_3 (w:World) (g:Bool) (s:ByteArray) (x:Int) (h1:s.size≤3000) (h2:x < -3000) (HC:Hid (∀ W:World,Calls Tryz.prog 19 #[.agg #[.bool g,.string s,.int .i64 x]] W fun e W'=>e = .returned (.int .i64 0)∧Below W.heap.size W W')) :
  Calls Tryz.prog 5 #[.agg #[.bool g,.string s,.int .i64 x],.int .i64 3000,.int .i64 3000] w fun en w'=>en = .returned (.bool false)∧Below w.heap.size w w':=by
 refine calls_sym Tryz.func5 rfl (by kernel_rfl) fun T hK=>?_
 replace hK:Kn T _ [(0,.agg #[.bool g,.string s,.int .i64 x]),(1,.int .i64 3000),(2,.int .i64 3000)]:=hK
 have hS:=Fb.begin w
 have hG:GsAt [] w:=trivial
 refine wp_symQ hS hG hK (fun p1=>[.n 3 #[.bool g,.string s,.int .i64 x] 23,.v 6 (.bool false)]) (fun p1=>[(1,.int .i64 3000),(2,.int .i64 3000),(3,.pointer (some ⟨(p1 0).N,0,none⟩)),(6,.bool false)]) (by kernel_rfl) (fun _ _=>by kernel_rfl) (fun _=>by kernel_rfl) (fun _=>by kernel_rfl) (fun p1=>?_) (fun p1 W1 T hF hK=>?_)
 ·refine ok_n (fun _=>by kernel_rfl) ?_
  refine ok_v (by kernel_rfl) ?_
  exact ok_nil
 replace hS:=SymF.fb hS hF [1000] [⟨(p1 0).N,#[.bool g,.string s,.int .i64 x],23,true⟩] (by kernel_rfl) (by kernel_rfl)
 replace hG:=hF.gx
 clear hF
 have z1:=hS.fr.size
 refine wp_symQ hS hG hK (fun p2=>[.l 7 (.agg #[.bool g,.string s,.int .i64 x]) 0 0,.c (some 8) (cV (.int .i64 0)),.v 9 (.bool true),.v 10 (.bool true),.v 11 (.pointer (some ⟨(p1 0).N,1,none⟩)),.l 12 (.string s) 0 1,.v 13 (.int .i64 (s.size:Int)),.v 14 (.int .i64 3000),.v 15 (.bool true),.v 16 (.bool true),.v 17 (.bool true),.v 18 (.pointer (some ⟨(p1 0).N,2,none⟩)),.l 19 (.int .i64 x) 0 2,.v 20 (.int .i64 3000),.v 21 (.bool true),.v 22 (.bool true),.v 23 (.bool true),.v 24 (.pointer (some ⟨(p1 0).N,2,none⟩)),.l 25 (.int .i64 x) 0 2,.v 26 (.int .i64 3000),.v 27 (.int .i64 (-3000)),.v 28 (.bool false),.v 29 (.bool false),.v 6 (.bool false)]) (fun p2=>[(6,.bool false)]) (by kernel_rfl) (fun _ _=>by kernel_rfl) (fun _=>by kernel_rfl) (fun _=>by kernel_rfl) (fun p2=>?_) (fun p2 W2 T hF hK=>?_)
 ·refine ok_L (by kernel_rfl) (by kernel_rfl) (by kernel_rfl) ?_
  refine ok_c (fun W cx=>as_v (unhide HC _)) (by kernel_rfl) ?_
  iterate 3 refine ok_v (by kernel_rfl) ?_
  refine ok_L (by kernel_rfl) (by kernel_rfl) (by kernel_rfl) ?_
  iterate 2 refine ok_v (by kernel_rfl) ?_
  refine ok_vb (decide_eq_true (show (s.size:Int)≤3000 by omega)) (by kernel_rfl) ?_
  iterate 3 refine ok_v (by kernel_rfl) ?_
  refine ok_L (by kernel_rfl) (by kernel_rfl) (by kernel_rfl) ?_
  refine ok_v (by kernel_rfl) ?_
  refine ok_vb (decide_eq_true (show x≤3000 by omega)) (by kernel_rfl) ?_
  iterate 3 refine ok_v (by kernel_rfl) ?_
  refine ok_L (by kernel_rfl) (by kernel_rfl) (by kernel_rfl) ?_
  iterate 2 refine ok_v (by kernel_rfl) ?_
  refine ok_vb (decide_eq_false (show ¬ x ≥ -3000 by omega)) (by kernel_rfl) ?_
  iterate 2 refine ok_v (by kernel_rfl) ?_
  exact ok_nil
 replace hS:=SymF.fb hS hF [] [] (by kernel_rfl) (by kernel_rfl)
 replace hG:=hF.gx
 clear hF
 have z2:=hS.fr.size
 refine wp_ret ?_
 exact sym_end hS hK (.bool false) [] [] (by kernel_rfl) (by kernel_rfl) ⟨rfl,hS.fr⟩
theorem cl_ok (w:World) (g:Bool) (s:ByteArray) (x:Int) (h1:s.size≤3000) (h2:x≤3000) (h3:-3000≤x) (HC:Hid (∀ W:World,Calls Tryz.prog 19 #[.agg #[.bool g,.string s,.int .i64 x]] W fun e W'=>e = .returned (.int .i64 0)∧Below W.heap.size W W')) :
  Calls Tryz.prog 5 #[.agg #[.bool g,.string s,.int .i64 x],.int .i64 3000,.int .i64 3000] w fun en w'=>en = .returned (.bool true)∧Below w.heap.size w w':=by
 refine calls_sym Tryz.func5 rfl (by kernel_rfl) fun T hK=>?_
 replace hK:Kn T _ [(0,.agg #[.bool g,.string s,.int .i64 x]),(1,.int .i64 3000),(2,.int .i64 3000)]:=hK
 have hS:=Fb.begin w
 have hG:GsAt [] w:=trivial
 refine wp_symQ hS hG hK (fun p1=>[.n 3 #[.bool g,.string s,.int .i64 x] 23,.v 6 (.bool false)]) (fun p1=>[(1,.int .i64 3000),(2,.int .i64 3000),(3,.pointer (some ⟨(p1 0).N,0,none⟩)),(6,.bool false)]) (by kernel_rfl) (fun _ _=>by kernel_rfl) (fun _=>by kernel_rfl) (fun _=>by kernel_rfl) (fun p1=>?_) (fun p1 W1 T hF hK=>?_)
 ·refine ok_n (fun _=>by kernel_rfl) ?_
  refine ok_v (by kernel_rfl) ?_
  exact ok_nil
 replace hS:=SymF.fb hS hF [1000] [⟨(p1 0).N,#[.bool g,.string s,.int .i64 x],23,true⟩] (by kernel_rfl) (by kernel_rfl)
 replace hG:=hF.gx
 clear hF
 have z1:=hS.fr.size
 refine wp_symQ hS hG hK (fun p2=>[.l 7 (.agg #[.bool g,.string s,.int .i64 x]) 0 0,.c (some 8) (cV (.int .i64 0)),.v 9 (.bool true),.v 10 (.bool true),.v 11 (.pointer (some ⟨(p1 0).N,1,none⟩)),.l 12 (.string s) 0 1,.v 13 (.int .i64 (s.size:Int)),.v 14 (.int .i64 3000),.v 15 (.bool true),.v 16 (.bool true),.v 17 (.bool true),.v 18 (.pointer (some ⟨(p1 0).N,2,none⟩)),.l 19 (.int .i64 x) 0 2,.v 20 (.int .i64 3000),.v 21 (.bool true),.v 22 (.bool true),.v 23 (.bool true),.v 24 (.pointer (some ⟨(p1 0).N,2,none⟩)),.l 25 (.int .i64 x) 0 2,.v 26 (.int .i64 3000),.v 27 (.int .i64 (-3000)),.v 28 (.bool true),.v 29 (.bool true),.v 6 (.bool true)]) (fun p2=>[(6,.bool true)]) (by kernel_rfl) (fun _ _=>by kernel_rfl) (fun _=>by kernel_rfl) (fun _=>by kernel_rfl) (fun p2=>?_) (fun p2 W2 T hF hK=>?_)
 ·refine ok_L (by kernel_rfl) (by kernel_rfl) (by kernel_rfl) ?_
  refine ok_c (fun W cx=>as_v (unhide HC _)) (by kernel_rfl) ?_
  iterate 3 refine ok_v (by kernel_rfl) ?_
  refine ok_L (by kernel_rfl) (by kernel_rfl) (by kernel_rfl) ?_
  iterate 2 refine ok_v (by kernel_rfl) ?_
  refine ok_vb (decide_eq_true (show (s.size:Int)≤3000 by omega)) (by kernel_rfl) ?_
  iterate 3 refine ok_v (by kernel_rfl) ?_
  refine ok_L (by kernel_rfl) (by kernel_rfl) (by kernel_rfl) ?_
  refine ok_v (by kernel_rfl) ?_
  refine ok_vb (decide_eq_true (show x≤3000 by omega)) (by kernel_rfl) ?_
  iterate 3 refine ok_v (by kernel_rfl) ?_
  refine ok_L (by kernel_rfl) (by kernel_rfl) (by kernel_rfl) ?_
  iterate 2 refine ok_v (by kernel_rfl) ?_
  refine ok_vb (decide_eq_true (show x ≥ -3000 by omega)) (by kernel_rfl) ?_
  iterate 2 refine ok_v (by kernel_rfl) ?_
  exact ok_nil
 replace hS:=SymF.fb hS hF [] [] (by kernel_rfl) (by kernel_rfl)
 replace hG:=hF.gx
 clear hF
 have z2:=hS.fr.size
 refine wp_ret ?_
 exact sym_end hS hK (.bool true) [] [] (by kernel_rfl) (by kernel_rfl) ⟨rfl,hS.fr⟩
end Go.Proofs.YtdbmdhfjmdlihaaGreatDoor
