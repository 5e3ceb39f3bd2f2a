/- Of what DecSumsRow stands on: DcRAddW. -/
import Derived.Test.YtpaoacehbomdmaaPai
import Derived.Test.YtpaoacehbomdmaaPaz
import Derived.Test.YtpaoacehbomdmaaPal
import Derived.Test.YtpaoacehbomdmaaPau
namespace Go.Proofs.Ytpaoacehbomdmaa
open Go.RowKit
set_option maxHeartbeats 2000000
set_option maxRecDepth 20000
theorem Num.nil (w:World):Num w none 0 0:=⟨[],rfl,Or.inl rfl,Pl.wf_nil,Pl.norm_nil,rfl,by omega⟩
theorem radd_e (w:World) (g:Bool) (s:ByteArray) (x:Int) (g2:Bool) (s2:ByteArray) (x2:Int) (e1:Int) (he:e1≠0) (HC:Hid (∀ W:World,Calls Try.prog 47 #[.agg #[.bool g,.string s,.int .i64 x],.agg #[.bool g2,.string s2,.int .i64 x2]] W fun e W'=>e = .returned (.int .i64 e1)∧Below W.heap.size W W')) :
  Calls Try.prog 20 #[.agg #[.bool g,.string s,.int .i64 x],.agg #[.bool g2,.string s2,.int .i64 x2]] w fun en w'=>en = .returned (.tuple #[.agg #[.bool false,.string ⟨#[]⟩,.int .i64 0],.int .i64 e1])∧Below w.heap.size w w':=by
 refine calls_sym Try.func20 rfl (by kernel_rfl) fun T hK=>?_
 replace hK:Kn T _ [(0,.agg #[.bool g,.string s,.int .i64 x]),(1,.agg #[.bool g2,.string s2,.int .i64 x2])]:=hK
 have hS:=Fb.begin w
 have hG:GsAt [] w:=trivial
 refine wp_symQ hS hG hK (fun p1=>[.n 2 #[.bool g,.string s,.int .i64 x] 23,.n 3 #[.bool g2,.string s2,.int .i64 x2] 23,.n 4 #[.bool false,.string ⟨#[]⟩,.int .i64 0] 23,.v 5 (.int .i64 0)]) (fun p1=>[(2,.pointer (some ⟨(p1 0).N,0,none⟩)),(3,.pointer (some ⟨(p1 1).N,0,none⟩)),(4,.pointer (some ⟨(p1 2).N,0,none⟩)),(5,.int .i64 0)]) (by kernel_rfl) (fun _ _=>by kernel_rfl) (fun _=>by kernel_rfl) (fun _=>by kernel_rfl) (fun p1=>?_) (fun p1 W1 T hF hK=>?_)
 ·iterate 3 refine ok_n (fun _=>by kernel_rfl) ?_
  refine ok_v (by kernel_rfl) ?_
  exact ok_nil
 replace hS:=SymF.fb hS hF [1000,1001,1002] [⟨(p1 0).N,#[.bool g,.string s,.int .i64 x],23,true⟩,⟨(p1 1).N,#[.bool g2,.string s2,.int .i64 x2],23,true⟩,⟨(p1 2).N,#[.bool false,.string ⟨#[]⟩,.int .i64 0],23,true⟩] (by kernel_rfl) (by kernel_rfl)
 replace hG:=hF.gx
 clear hF
 have z1:=hS.fr.size
 refine wp_symQ hS hG hK (fun p2=>[.l 16 (.agg #[.bool g,.string s,.int .i64 x]) 0 0,.l 17 (.agg #[.bool g2,.string s2,.int .i64 x2]) 1 0,.c (some 18) (cV (.int .i64 e1)),.v 6 (.int .i64 e1)]) (fun p2=>[(2,.pointer (some ⟨(p1 0).N,0,none⟩)),(3,.pointer (some ⟨(p1 1).N,0,none⟩)),(4,.pointer (some ⟨(p1 2).N,0,none⟩)),(5,.int .i64 0),(6,.int .i64 e1)]) (by kernel_rfl) (fun _ _=>by kernel_rfl) (fun _=>by kernel_rfl) (fun _=>by kernel_rfl) (fun p2=>?_) (fun p2 W2 T hF hK=>?_)
 ·iterate 2 refine ok_L (by kernel_rfl) (by kernel_rfl) (by kernel_rfl) ?_
  refine ok_c (fun W cx=>as_v (unhide HC _)) (by kernel_rfl) ?_
  refine ok_v (by kernel_rfl) ?_
  exact ok_nil
 replace hS:=SymF.fb hS hF [0,1,2] [⟨(p1 0).N,#[.bool g,.string s,.int .i64 x],23,true⟩,⟨(p1 1).N,#[.bool g2,.string s2,.int .i64 x2],23,true⟩,⟨(p1 2).N,#[.bool false,.string ⟨#[]⟩,.int .i64 0],23,true⟩] (by kernel_rfl) (by kernel_rfl)
 replace hG:=hF.gx
 clear hF
 have z2:=hS.fr.size
 refine wp_seq ?_
 refine wp_symQ hS hG hK (fun p3=>[.v 19 (.int .i64 e1),.v 20 (.bool true)]) (fun p3=>[(2,.pointer (some ⟨(p1 0).N,0,none⟩)),(3,.pointer (some ⟨(p1 1).N,0,none⟩)),(4,.pointer (some ⟨(p1 2).N,0,none⟩)),(5,.int .i64 0),(6,.int .i64 e1),(20,.bool true)]) (by kernel_rfl) (fun _ _=>by kernel_rfl) (fun _=>by kernel_rfl) (fun _=>by kernel_rfl) (fun p3=>?_) (fun p3 W3 T hF hK=>?_)
 ·refine ok_v (by kernel_rfl) ?_
  refine ok_vb (bne_iff_ne.2 he) (by kernel_rfl) ?_
  exact ok_nil
 replace hS:=SymF.fb hS hF [0,1,2] [⟨(p1 0).N,#[.bool g,.string s,.int .i64 x],23,true⟩,⟨(p1 1).N,#[.bool g2,.string s2,.int .i64 x2],23,true⟩,⟨(p1 2).N,#[.bool false,.string ⟨#[]⟩,.int .i64 0],23,true⟩] (by kernel_rfl) (by kernel_rfl)
 replace hG:=hF.gx
 clear hF
 have z3:=hS.fr.size
 refine wp_cond_true (hK.ev 20 (by kernel_rfl) _ (by kernel_rfl)) ?_
 refine wp_symQ hS hG hK (fun p4=>[.v 21 (.agg #[.bool false,.string ⟨#[]⟩,.int .i64 0]),.v 22 (.int .i64 e1),.p 2 0 [.bool false,.string ⟨#[]⟩,.int .i64 0],.v 5 (.int .i64 e1)]) (fun p4=>[(2,.pointer (some ⟨(p1 0).N,0,none⟩)),(3,.pointer (some ⟨(p1 1).N,0,none⟩)),(4,.pointer (some ⟨(p1 2).N,0,none⟩)),(5,.int .i64 e1),(20,.bool true)]) (by kernel_rfl) (fun _ _=>by kernel_rfl) (fun _=>by kernel_rfl) (fun _=>by kernel_rfl) (fun p4=>?_) (fun p4 W4 T hF hK=>?_)
 ·iterate 2 refine ok_v (by kernel_rfl) ?_
  refine ok_P (by kernel_rfl) (by kernel_rfl) (by kernel_rfl) ?_
  refine ok_v (by kernel_rfl) ?_
  exact ok_nil
 replace hS:=SymF.fb hS hF [0,1,2] [⟨(p1 0).N,#[.bool g,.string s,.int .i64 x],23,true⟩,⟨(p1 1).N,#[.bool g2,.string s2,.int .i64 x2],23,true⟩,⟨(p1 2).N,#[.bool false,.string ⟨#[]⟩,.int .i64 0],23,true⟩] (by kernel_rfl) (by kernel_rfl)
 replace hG:=hF.gx
 clear hF
 have z4:=hS.fr.size
 refine wp_ret ?_
 refine then_r ?_
 exact sym_end hS hK (.tuple #[.agg #[.bool false,.string ⟨#[]⟩,.int .i64 0],.int .i64 e1]) [(2,0,3)] [.bool false,.string ⟨#[]⟩,.int .i64 0] (by kernel_rfl) (by kernel_rfl) ⟨rfl,hS.fr⟩
theorem radd_zz_tt (w:World) (s:ByteArray) (x:Int) (s2:ByteArray) (x2:Int) (ha:s.size = 0) (hb:s2.size = 0) (HC:Hid (∀ W:World,Calls Try.prog 47 #[.agg #[.bool true,.string s,.int .i64 x],.agg #[.bool true,.string s2,.int .i64 x2]] W fun e W'=>e = .returned (.int .i64 0)∧Below W.heap.size W W')) :
  Calls Try.prog 20 #[.agg #[.bool true,.string s,.int .i64 x],.agg #[.bool true,.string s2,.int .i64 x2]] w fun en w'=>en = .returned (.tuple #[.agg #[.bool true,.string ⟨#[]⟩,.int .i64 0],.int .i64 0])∧Below w.heap.size w w':=by
 refine calls_sym Try.func20 rfl (by kernel_rfl) fun T hK=>?_
 replace hK:Kn T _ [(0,.agg #[.bool true,.string s,.int .i64 x]),(1,.agg #[.bool true,.string s2,.int .i64 x2])]:=hK
 have hS:=Fb.begin w
 have hG:GsAt [] w:=trivial
 refine wp_symQ hS hG hK (fun p1=>[.n 2 #[.bool true,.string s,.int .i64 x] 23,.n 3 #[.bool true,.string s2,.int .i64 x2] 23,.n 4 #[.bool false,.string ⟨#[]⟩,.int .i64 0] 23,.v 5 (.int .i64 0)]) (fun p1=>[(2,.pointer (some ⟨(p1 0).N,0,none⟩)),(3,.pointer (some ⟨(p1 1).N,0,none⟩)),(4,.pointer (some ⟨(p1 2).N,0,none⟩)),(5,.int .i64 0)]) (by kernel_rfl) (fun _ _=>by kernel_rfl) (fun _=>by kernel_rfl) (fun _=>by kernel_rfl) (fun p1=>?_) (fun p1 W1 T hF hK=>?_)
 ·iterate 3 refine ok_n (fun _=>by kernel_rfl) ?_
  refine ok_v (by kernel_rfl) ?_
  exact ok_nil
 replace hS:=SymF.fb hS hF [1000,1001,1002] [⟨(p1 0).N,#[.bool true,.string s,.int .i64 x],23,true⟩,⟨(p1 1).N,#[.bool true,.string s2,.int .i64 x2],23,true⟩,⟨(p1 2).N,#[.bool false,.string ⟨#[]⟩,.int .i64 0],23,true⟩] (by kernel_rfl) (by kernel_rfl)
 replace hG:=hF.gx
 clear hF
 have z1:=hS.fr.size
 refine wp_symQ hS hG hK (fun p2=>[.l 16 (.agg #[.bool true,.string s,.int .i64 x]) 0 0,.l 17 (.agg #[.bool true,.string s2,.int .i64 x2]) 1 0,.c (some 18) (cV (.int .i64 0)),.v 6 (.int .i64 0)]) (fun p2=>[(2,.pointer (some ⟨(p1 0).N,0,none⟩)),(3,.pointer (some ⟨(p1 1).N,0,none⟩)),(4,.pointer (some ⟨(p1 2).N,0,none⟩)),(5,.int .i64 0),(6,.int .i64 0)]) (by kernel_rfl) (fun _ _=>by kernel_rfl) (fun _=>by kernel_rfl) (fun _=>by kernel_rfl) (fun p2=>?_) (fun p2 W2 T hF hK=>?_)
 ·iterate 2 refine ok_L (by kernel_rfl) (by kernel_rfl) (by kernel_rfl) ?_
  refine ok_c (fun W cx=>as_v (unhide HC _)) (by kernel_rfl) ?_
  refine ok_v (by kernel_rfl) ?_
  exact ok_nil
 replace hS:=SymF.fb hS hF [0,1,2] [⟨(p1 0).N,#[.bool true,.string s,.int .i64 x],23,true⟩,⟨(p1 1).N,#[.bool true,.string s2,.int .i64 x2],23,true⟩,⟨(p1 2).N,#[.bool false,.string ⟨#[]⟩,.int .i64 0],23,true⟩] (by kernel_rfl) (by kernel_rfl)
 replace hG:=hF.gx
 clear hF
 have z2:=hS.fr.size
 refine wp_seq ?_
 refine wp_symQ hS hG hK (fun p3=>[.v 19 (.int .i64 0),.v 20 (.bool false)]) (fun p3=>[(2,.pointer (some ⟨(p1 0).N,0,none⟩)),(3,.pointer (some ⟨(p1 1).N,0,none⟩)),(4,.pointer (some ⟨(p1 2).N,0,none⟩)),(5,.int .i64 0),(6,.int .i64 0),(20,.bool false)]) (by kernel_rfl) (fun _ _=>by kernel_rfl) (fun _=>by kernel_rfl) (fun _=>by kernel_rfl) (fun p3=>?_) (fun p3 W3 T hF hK=>?_)
 ·iterate 2 refine ok_v (by kernel_rfl) ?_
  exact ok_nil
 replace hS:=SymF.fb hS hF [0,1,2] [⟨(p1 0).N,#[.bool true,.string s,.int .i64 x],23,true⟩,⟨(p1 1).N,#[.bool true,.string s2,.int .i64 x2],23,true⟩,⟨(p1 2).N,#[.bool false,.string ⟨#[]⟩,.int .i64 0],23,true⟩] (by kernel_rfl) (by kernel_rfl)
 replace hG:=hF.gx
 clear hF
 have z3:=hS.fr.size
 refine wp_cond_false (hK.ev 20 (by kernel_rfl) _ (by kernel_rfl)) ?_
 refine wp_skip ?_
 refine then_n ?_
 refine wp_seq ?_
 refine wp_symQ hS hG hK (fun p4=>[.l 23 (.agg #[.bool true,.string s,.int .i64 x]) 0 0,.c (some 24) (cV (.bool true)),.v 25 (.bool true),.l 26 (.agg #[.bool true,.string s2,.int .i64 x2]) 1 0,.c (some 27) (cV (.bool true)),.v 28 (.bool true)]) (fun p4=>[(2,.pointer (some ⟨(p1 0).N,0,none⟩)),(3,.pointer (some ⟨(p1 1).N,0,none⟩)),(4,.pointer (some ⟨(p1 2).N,0,none⟩)),(5,.int .i64 0),(6,.int .i64 0),(20,.bool false),(28,.bool true)]) (by kernel_rfl) (fun _ _=>by kernel_rfl) (fun _=>by kernel_rfl) (fun _=>by kernel_rfl) (fun p4=>?_) (fun p4 W4 T hF hK=>?_)
 ·refine ok_L (by kernel_rfl) (by kernel_rfl) (by kernel_rfl) ?_
  refine ok_c (fun W cx=>as_v (rnone_t _ true s x ha)) (by kernel_rfl) ?_
  refine ok_v (by kernel_rfl) ?_
  refine ok_L (by kernel_rfl) (by kernel_rfl) (by kernel_rfl) ?_
  refine ok_c (fun W cx=>as_v (rnone_t _ true s2 x2 hb)) (by kernel_rfl) ?_
  refine ok_v (by kernel_rfl) ?_
  exact ok_nil
 replace hS:=SymF.fb hS hF [0,1,2] [⟨(p1 0).N,#[.bool true,.string s,.int .i64 x],23,true⟩,⟨(p1 1).N,#[.bool true,.string s2,.int .i64 x2],23,true⟩,⟨(p1 2).N,#[.bool false,.string ⟨#[]⟩,.int .i64 0],23,true⟩] (by kernel_rfl) (by kernel_rfl)
 replace hG:=hF.gx
 clear hF
 have z4:=hS.fr.size
 refine wp_cond_true (hK.ev 28 (by kernel_rfl) _ (by kernel_rfl)) ?_
 refine wp_symQ hS hG hK (fun p5=>[.v 29 (.pointer (some ⟨(p1 0).N,0,none⟩)),.l 30 (.bool true) 0 0,.v 31 (.bool true),.v 32 (.pointer (some ⟨(p1 1).N,0,none⟩)),.l 33 (.bool true) 1 0,.v 34 (.bool true),.v 35 (.agg #[.bool true,.string ⟨#[]⟩,.int .i64 0]),.p 2 0 [.bool true,.string ⟨#[]⟩,.int .i64 0],.v 5 (.int .i64 0)]) (fun p5=>[(2,.pointer (some ⟨(p1 0).N,0,none⟩)),(3,.pointer (some ⟨(p1 1).N,0,none⟩)),(4,.pointer (some ⟨(p1 2).N,0,none⟩)),(5,.int .i64 0),(6,.int .i64 0),(20,.bool false),(28,.bool true)]) (by kernel_rfl) (fun _ _=>by kernel_rfl) (fun _=>by kernel_rfl) (fun _=>by kernel_rfl) (fun p5=>?_) (fun p5 W5 T hF hK=>?_)
 ·refine ok_v (by kernel_rfl) ?_
  refine ok_L (by kernel_rfl) (by kernel_rfl) (by kernel_rfl) ?_
  iterate 2 refine ok_v (by kernel_rfl) ?_
  refine ok_L (by kernel_rfl) (by kernel_rfl) (by kernel_rfl) ?_
  iterate 2 refine ok_v (by kernel_rfl) ?_
  refine ok_P (by kernel_rfl) (by kernel_rfl) (by kernel_rfl) ?_
  refine ok_v (by kernel_rfl) ?_
  exact ok_nil
 replace hS:=SymF.fb hS hF [0,1,2] [⟨(p1 0).N,#[.bool true,.string s,.int .i64 x],23,true⟩,⟨(p1 1).N,#[.bool true,.string s2,.int .i64 x2],23,true⟩,⟨(p1 2).N,#[.bool true,.string ⟨#[]⟩,.int .i64 0],23,true⟩] (by kernel_rfl) (by kernel_rfl)
 replace hG:=hF.gx
 clear hF
 have z5:=hS.fr.size
 refine wp_ret ?_
 refine then_r ?_
 exact sym_end hS hK (.tuple #[.agg #[.bool true,.string ⟨#[]⟩,.int .i64 0],.int .i64 0]) [(2,0,3)] [.bool true,.string ⟨#[]⟩,.int .i64 0] (by kernel_rfl) (by kernel_rfl) ⟨rfl,hS.fr⟩
theorem radd_zz_tf (w:World) (s:ByteArray) (x:Int) (s2:ByteArray) (x2:Int) (ha:s.size = 0) (hb:s2.size = 0) (HC:Hid (∀ W:World,Calls Try.prog 47 #[.agg #[.bool true,.string s,.int .i64 x],.agg #[.bool false,.string s2,.int .i64 x2]] W fun e W'=>e = .returned (.int .i64 0)∧Below W.heap.size W W')) :
  Calls Try.prog 20 #[.agg #[.bool true,.string s,.int .i64 x],.agg #[.bool false,.string s2,.int .i64 x2]] w fun en w'=>en = .returned (.tuple #[.agg #[.bool false,.string ⟨#[]⟩,.int .i64 0],.int .i64 0])∧Below w.heap.size w w':=by
 refine calls_sym Try.func20 rfl (by kernel_rfl) fun T hK=>?_
 replace hK:Kn T _ [(0,.agg #[.bool true,.string s,.int .i64 x]),(1,.agg #[.bool false,.string s2,.int .i64 x2])]:=hK
 have hS:=Fb.begin w
 have hG:GsAt [] w:=trivial
 refine wp_symQ hS hG hK (fun p1=>[.n 2 #[.bool true,.string s,.int .i64 x] 23,.n 3 #[.bool false,.string s2,.int .i64 x2] 23,.n 4 #[.bool false,.string ⟨#[]⟩,.int .i64 0] 23,.v 5 (.int .i64 0)]) (fun p1=>[(2,.pointer (some ⟨(p1 0).N,0,none⟩)),(3,.pointer (some ⟨(p1 1).N,0,none⟩)),(4,.pointer (some ⟨(p1 2).N,0,none⟩)),(5,.int .i64 0)]) (by kernel_rfl) (fun _ _=>by kernel_rfl) (fun _=>by kernel_rfl) (fun _=>by kernel_rfl) (fun p1=>?_) (fun p1 W1 T hF hK=>?_)
 ·iterate 3 refine ok_n (fun _=>by kernel_rfl) ?_
  refine ok_v (by kernel_rfl) ?_
  exact ok_nil
 replace hS:=SymF.fb hS hF [1000,1001,1002] [⟨(p1 0).N,#[.bool true,.string s,.int .i64 x],23,true⟩,⟨(p1 1).N,#[.bool false,.string s2,.int .i64 x2],23,true⟩,⟨(p1 2).N,#[.bool false,.string ⟨#[]⟩,.int .i64 0],23,true⟩] (by kernel_rfl) (by kernel_rfl)
 replace hG:=hF.gx
 clear hF
 have z1:=hS.fr.size
 refine wp_symQ hS hG hK (fun p2=>[.l 16 (.agg #[.bool true,.string s,.int .i64 x]) 0 0,.l 17 (.agg #[.bool false,.string s2,.int .i64 x2]) 1 0,.c (some 18) (cV (.int .i64 0)),.v 6 (.int .i64 0)]) (fun p2=>[(2,.pointer (some ⟨(p1 0).N,0,none⟩)),(3,.pointer (some ⟨(p1 1).N,0,none⟩)),(4,.pointer (some ⟨(p1 2).N,0,none⟩)),(5,.int .i64 0),(6,.int .i64 0)]) (by kernel_rfl) (fun _ _=>by kernel_rfl) (fun _=>by kernel_rfl) (fun _=>by kernel_rfl) (fun p2=>?_) (fun p2 W2 T hF hK=>?_)
 ·iterate 2 refine ok_L (by kernel_rfl) (by kernel_rfl) (by kernel_rfl) ?_
  refine ok_c (fun W cx=>as_v (unhide HC _)) (by kernel_rfl) ?_
  refine ok_v (by kernel_rfl) ?_
  exact ok_nil
 replace hS:=SymF.fb hS hF [0,1,2] [⟨(p1 0).N,#[.bool true,.string s,.int .i64 x],23,true⟩,⟨(p1 1).N,#[.bool false,.string s2,.int .i64 x2],23,true⟩,⟨(p1 2).N,#[.bool false,.string ⟨#[]⟩,.int .i64 0],23,true⟩] (by kernel_rfl) (by kernel_rfl)
 replace hG:=hF.gx
 clear hF
 have z2:=hS.fr.size
 refine wp_seq ?_
 refine wp_symQ hS hG hK (fun p3=>[.v 19 (.int .i64 0),.v 20 (.bool false)]) (fun p3=>[(2,.pointer (some ⟨(p1 0).N,0,none⟩)),(3,.pointer (some ⟨(p1 1).N,0,none⟩)),(4,.pointer (some ⟨(p1 2).N,0,none⟩)),(5,.int .i64 0),(6,.int .i64 0),(20,.bool false)]) (by kernel_rfl) (fun _ _=>by kernel_rfl) (fun _=>by kernel_rfl) (fun _=>by kernel_rfl) (fun p3=>?_) (fun p3 W3 T hF hK=>?_)
 ·iterate 2 refine ok_v (by kernel_rfl) ?_
  exact ok_nil
 replace hS:=SymF.fb hS hF [0,1,2] [⟨(p1 0).N,#[.bool true,.string s,.int .i64 x],23,true⟩,⟨(p1 1).N,#[.bool false,.string s2,.int .i64 x2],23,true⟩,⟨(p1 2).N,#[.bool false,.string ⟨#[]⟩,.int .i64 0],23,true⟩] (by kernel_rfl) (by kernel_rfl)
 replace hG:=hF.gx
 clear hF
 have z3:=hS.fr.size
 refine wp_cond_false (hK.ev 20 (by kernel_rfl) _ (by kernel_rfl)) ?_
 refine wp_skip ?_
 refine then_n ?_
 refine wp_seq ?_
 refine wp_symQ hS hG hK (fun p4=>[.l 23 (.agg #[.bool true,.string s,.int .i64 x]) 0 0,.c (some 24) (cV (.bool true)),.v 25 (.bool true),.l 26 (.agg #[.bool false,.string s2,.int .i64 x2]) 1 0,.c (some 27) (cV (.bool true)),.v 28 (.bool true)]) (fun p4=>[(2,.pointer (some ⟨(p1 0).N,0,none⟩)),(3,.pointer (some ⟨(p1 1).N,0,none⟩)),(4,.pointer (some ⟨(p1 2).N,0,none⟩)),(5,.int .i64 0),(6,.int .i64 0),(20,.bool false),(28,.bool true)]) (by kernel_rfl) (fun _ _=>by kernel_rfl) (fun _=>by kernel_rfl) (fun _=>by kernel_rfl) (fun p4=>?_) (fun p4 W4 T hF hK=>?_)
 ·refine ok_L (by kernel_rfl) (by kernel_rfl) (by kernel_rfl) ?_
  refine ok_c (fun W cx=>as_v (rnone_t _ true s x ha)) (by kernel_rfl) ?_
  refine ok_v (by kernel_rfl) ?_
  refine ok_L (by kernel_rfl) (by kernel_rfl) (by kernel_rfl) ?_
  refine ok_c (fun W cx=>as_v (rnone_t _ false s2 x2 hb)) (by kernel_rfl) ?_
  refine ok_v (by kernel_rfl) ?_
  exact ok_nil
 replace hS:=SymF.fb hS hF [0,1,2] [⟨(p1 0).N,#[.bool true,.string s,.int .i64 x],23,true⟩,⟨(p1 1).N,#[.bool false,.string s2,.int .i64 x2],23,true⟩,⟨(p1 2).N,#[.bool false,.string ⟨#[]⟩,.int .i64 0],23,true⟩] (by kernel_rfl) (by kernel_rfl)
 replace hG:=hF.gx
 clear hF
 have z4:=hS.fr.size
 refine wp_cond_true (hK.ev 28 (by kernel_rfl) _ (by kernel_rfl)) ?_
 refine wp_symQ hS hG hK (fun p5=>[.v 29 (.pointer (some ⟨(p1 0).N,0,none⟩)),.l 30 (.bool true) 0 0,.v 31 (.bool true),.v 32 (.pointer (some ⟨(p1 1).N,0,none⟩)),.l 33 (.bool false) 1 0,.v 34 (.bool false),.v 35 (.agg #[.bool false,.string ⟨#[]⟩,.int .i64 0]),.p 2 0 [.bool false,.string ⟨#[]⟩,.int .i64 0],.v 5 (.int .i64 0)]) (fun p5=>[(2,.pointer (some ⟨(p1 0).N,0,none⟩)),(3,.pointer (some ⟨(p1 1).N,0,none⟩)),(4,.pointer (some ⟨(p1 2).N,0,none⟩)),(5,.int .i64 0),(6,.int .i64 0),(20,.bool false),(28,.bool true)]) (by kernel_rfl) (fun _ _=>by kernel_rfl) (fun _=>by kernel_rfl) (fun _=>by kernel_rfl) (fun p5=>?_) (fun p5 W5 T hF hK=>?_)
 ·refine ok_v (by kernel_rfl) ?_
  refine ok_L (by kernel_rfl) (by kernel_rfl) (by kernel_rfl) ?_
  iterate 2 refine ok_v (by kernel_rfl) ?_
  refine ok_L (by kernel_rfl) (by kernel_rfl) (by kernel_rfl) ?_
  iterate 2 refine ok_v (by kernel_rfl) ?_
  refine ok_P (by kernel_rfl) (by kernel_rfl) (by kernel_rfl) ?_
  refine ok_v (by kernel_rfl) ?_
  exact ok_nil
 replace hS:=SymF.fb hS hF [0,1,2] [⟨(p1 0).N,#[.bool true,.string s,.int .i64 x],23,true⟩,⟨(p1 1).N,#[.bool false,.string s2,.int .i64 x2],23,true⟩,⟨(p1 2).N,#[.bool false,.string ⟨#[]⟩,.int .i64 0],23,true⟩] (by kernel_rfl) (by kernel_rfl)
 replace hG:=hF.gx
 clear hF
 have z5:=hS.fr.size
 refine wp_ret ?_
 refine then_r ?_
 exact sym_end hS hK (.tuple #[.agg #[.bool false,.string ⟨#[]⟩,.int .i64 0],.int .i64 0]) [(2,0,3)] [.bool false,.string ⟨#[]⟩,.int .i64 0] (by kernel_rfl) (by kernel_rfl) ⟨rfl,hS.fr⟩
theorem radd_zz_ft (w:World) (s:ByteArray) (x:Int) (s2:ByteArray) (x2:Int) (ha:s.size = 0) (hb:s2.size = 0) (HC:Hid (∀ W:World,Calls Try.prog 47 #[.agg #[.bool false,.string s,.int .i64 x],.agg #[.bool true,.string s2,.int .i64 x2]] W fun e W'=>e = .returned (.int .i64 0)∧Below W.heap.size W W')) :
  Calls Try.prog 20 #[.agg #[.bool false,.string s,.int .i64 x],.agg #[.bool true,.string s2,.int .i64 x2]] w fun en w'=>en = .returned (.tuple #[.agg #[.bool false,.string ⟨#[]⟩,.int .i64 0],.int .i64 0])∧Below w.heap.size w w':=by
 refine calls_sym Try.func20 rfl (by kernel_rfl) fun T hK=>?_
 replace hK:Kn T _ [(0,.agg #[.bool false,.string s,.int .i64 x]),(1,.agg #[.bool true,.string s2,.int .i64 x2])]:=hK
 have hS:=Fb.begin w
 have hG:GsAt [] w:=trivial
 refine wp_symQ hS hG hK (fun p1=>[.n 2 #[.bool false,.string s,.int .i64 x] 23,.n 3 #[.bool true,.string s2,.int .i64 x2] 23,.n 4 #[.bool false,.string ⟨#[]⟩,.int .i64 0] 23,.v 5 (.int .i64 0)]) (fun p1=>[(2,.pointer (some ⟨(p1 0).N,0,none⟩)),(3,.pointer (some ⟨(p1 1).N,0,none⟩)),(4,.pointer (some ⟨(p1 2).N,0,none⟩)),(5,.int .i64 0)]) (by kernel_rfl) (fun _ _=>by kernel_rfl) (fun _=>by kernel_rfl) (fun _=>by kernel_rfl) (fun p1=>?_) (fun p1 W1 T hF hK=>?_)
 ·iterate 3 refine ok_n (fun _=>by kernel_rfl) ?_
  refine ok_v (by kernel_rfl) ?_
  exact ok_nil
 replace hS:=SymF.fb hS hF [1000,1001,1002] [⟨(p1 0).N,#[.bool false,.string s,.int .i64 x],23,true⟩,⟨(p1 1).N,#[.bool true,.string s2,.int .i64 x2],23,true⟩,⟨(p1 2).N,#[.bool false,.string ⟨#[]⟩,.int .i64 0],23,true⟩] (by kernel_rfl) (by kernel_rfl)
 replace hG:=hF.gx
 clear hF
 have z1:=hS.fr.size
 refine wp_symQ hS hG hK (fun p2=>[.l 16 (.agg #[.bool false,.string s,.int .i64 x]) 0 0,.l 17 (.agg #[.bool true,.string s2,.int .i64 x2]) 1 0,.c (some 18) (cV (.int .i64 0)),.v 6 (.int .i64 0)]) (fun p2=>[(2,.pointer (some ⟨(p1 0).N,0,none⟩)),(3,.pointer (some ⟨(p1 1).N,0,none⟩)),(4,.pointer (some ⟨(p1 2).N,0,none⟩)),(5,.int .i64 0),(6,.int .i64 0)]) (by kernel_rfl) (fun _ _=>by kernel_rfl) (fun _=>by kernel_rfl) (fun _=>by kernel_rfl) (fun p2=>?_) (fun p2 W2 T hF hK=>?_)
 ·iterate 2 refine ok_L (by kernel_rfl) (by kernel_rfl) (by kernel_rfl) ?_
  refine ok_c (fun W cx=>as_v (unhide HC _)) (by kernel_rfl) ?_
  refine ok_v (by kernel_rfl) ?_
  exact ok_nil
 replace hS:=SymF.fb hS hF [0,1,2] [⟨(p1 0).N,#[.bool false,.string s,.int .i64 x],23,true⟩,⟨(p1 1).N,#[.bool true,.string s2,.int .i64 x2],23,true⟩,⟨(p1 2).N,#[.bool false,.string ⟨#[]⟩,.int .i64 0],23,true⟩] (by kernel_rfl) (by kernel_rfl)
 replace hG:=hF.gx
 clear hF
 have z2:=hS.fr.size
 refine wp_seq ?_
 refine wp_symQ hS hG hK (fun p3=>[.v 19 (.int .i64 0),.v 20 (.bool false)]) (fun p3=>[(2,.pointer (some ⟨(p1 0).N,0,none⟩)),(3,.pointer (some ⟨(p1 1).N,0,none⟩)),(4,.pointer (some ⟨(p1 2).N,0,none⟩)),(5,.int .i64 0),(6,.int .i64 0),(20,.bool false)]) (by kernel_rfl) (fun _ _=>by kernel_rfl) (fun _=>by kernel_rfl) (fun _=>by kernel_rfl) (fun p3=>?_) (fun p3 W3 T hF hK=>?_)
 ·iterate 2 refine ok_v (by kernel_rfl) ?_
  exact ok_nil
 replace hS:=SymF.fb hS hF [0,1,2] [⟨(p1 0).N,#[.bool false,.string s,.int .i64 x],23,true⟩,⟨(p1 1).N,#[.bool true,.string s2,.int .i64 x2],23,true⟩,⟨(p1 2).N,#[.bool false,.string ⟨#[]⟩,.int .i64 0],23,true⟩] (by kernel_rfl) (by kernel_rfl)
 replace hG:=hF.gx
 clear hF
 have z3:=hS.fr.size
 refine wp_cond_false (hK.ev 20 (by kernel_rfl) _ (by kernel_rfl)) ?_
 refine wp_skip ?_
 refine then_n ?_
 refine wp_seq ?_
 refine wp_symQ hS hG hK (fun p4=>[.l 23 (.agg #[.bool false,.string s,.int .i64 x]) 0 0,.c (some 24) (cV (.bool true)),.v 25 (.bool true),.l 26 (.agg #[.bool true,.string s2,.int .i64 x2]) 1 0,.c (some 27) (cV (.bool true)),.v 28 (.bool true)]) (fun p4=>[(2,.pointer (some ⟨(p1 0).N,0,none⟩)),(3,.pointer (some ⟨(p1 1).N,0,none⟩)),(4,.pointer (some ⟨(p1 2).N,0,none⟩)),(5,.int .i64 0),(6,.int .i64 0),(20,.bool false),(28,.bool true)]) (by kernel_rfl) (fun _ _=>by kernel_rfl) (fun _=>by kernel_rfl) (fun _=>by kernel_rfl) (fun p4=>?_) (fun p4 W4 T hF hK=>?_)
 ·refine ok_L (by kernel_rfl) (by kernel_rfl) (by kernel_rfl) ?_
  refine ok_c (fun W cx=>as_v (rnone_t _ false s x ha)) (by kernel_rfl) ?_
  refine ok_v (by kernel_rfl) ?_
  refine ok_L (by kernel_rfl) (by kernel_rfl) (by kernel_rfl) ?_
  refine ok_c (fun W cx=>as_v (rnone_t _ true s2 x2 hb)) (by kernel_rfl) ?_
  refine ok_v (by kernel_rfl) ?_
  exact ok_nil
 replace hS:=SymF.fb hS hF [0,1,2] [⟨(p1 0).N,#[.bool false,.string s,.int .i64 x],23,true⟩,⟨(p1 1).N,#[.bool true,.string s2,.int .i64 x2],23,true⟩,⟨(p1 2).N,#[.bool false,.string ⟨#[]⟩,.int .i64 0],23,true⟩] (by kernel_rfl) (by kernel_rfl)
 replace hG:=hF.gx
 clear hF
 have z4:=hS.fr.size
 refine wp_cond_true (hK.ev 28 (by kernel_rfl) _ (by kernel_rfl)) ?_
 refine wp_symQ hS hG hK (fun p5=>[.v 29 (.pointer (some ⟨(p1 0).N,0,none⟩)),.l 30 (.bool false) 0 0,.v 31 (.bool false),.k (some 32),.k (some 33),.v 34 (.bool false),.v 35 (.agg #[.bool false,.string ⟨#[]⟩,.int .i64 0]),.p 2 0 [.bool false,.string ⟨#[]⟩,.int .i64 0],.v 5 (.int .i64 0)]) (fun p5=>[(2,.pointer (some ⟨(p1 0).N,0,none⟩)),(3,.pointer (some ⟨(p1 1).N,0,none⟩)),(4,.pointer (some ⟨(p1 2).N,0,none⟩)),(5,.int .i64 0),(6,.int .i64 0),(20,.bool false),(28,.bool true)]) (by kernel_rfl) (fun _ _=>by kernel_rfl) (fun _=>by kernel_rfl) (fun _=>by kernel_rfl) (fun p5=>?_) (fun p5 W5 T hF hK=>?_)
 ·refine ok_v (by kernel_rfl) ?_
  refine ok_L (by kernel_rfl) (by kernel_rfl) (by kernel_rfl) ?_
  refine ok_v (by kernel_rfl) ?_
  iterate 2 refine ok_K (by kernel_rfl) ?_
  iterate 2 refine ok_v (by kernel_rfl) ?_
  refine ok_P (by kernel_rfl) (by kernel_rfl) (by kernel_rfl) ?_
  refine ok_v (by kernel_rfl) ?_
  exact ok_nil
 replace hS:=SymF.fb hS hF [0,1,2] [⟨(p1 0).N,#[.bool false,.string s,.int .i64 x],23,true⟩,⟨(p1 1).N,#[.bool true,.string s2,.int .i64 x2],23,true⟩,⟨(p1 2).N,#[.bool false,.string ⟨#[]⟩,.int .i64 0],23,true⟩] (by kernel_rfl) (by kernel_rfl)
 replace hG:=hF.gx
 clear hF
 have z5:=hS.fr.size
 refine wp_ret ?_
 refine then_r ?_
 exact sym_end hS hK (.tuple #[.agg #[.bool false,.string ⟨#[]⟩,.int .i64 0],.int .i64 0]) [(2,0,3)] [.bool false,.string ⟨#[]⟩,.int .i64 0] (by kernel_rfl) (by kernel_rfl) ⟨rfl,hS.fr⟩
theorem radd_zz_ff (w:World) (s:ByteArray) (x:Int) (s2:ByteArray) (x2:Int) (ha:s.size = 0) (hb:s2.size = 0) (HC:Hid (∀ W:World,Calls Try.prog 47 #[.agg #[.bool false,.string s,.int .i64 x],.agg #[.bool false,.string s2,.int .i64 x2]] W fun e W'=>e = .returned (.int .i64 0)∧Below W.heap.size W W')) :
  Calls Try.prog 20 #[.agg #[.bool false,.string s,.int .i64 x],.agg #[.bool false,.string s2,.int .i64 x2]] w fun en w'=>en = .returned (.tuple #[.agg #[.bool false,.string ⟨#[]⟩,.int .i64 0],.int .i64 0])∧Below w.heap.size w w':=by
 refine calls_sym Try.func20 rfl (by kernel_rfl) fun T hK=>?_
 replace hK:Kn T _ [(0,.agg #[.bool false,.string s,.int .i64 x]),(1,.agg #[.bool false,.string s2,.int .i64 x2])]:=hK
 have hS:=Fb.begin w
 have hG:GsAt [] w:=trivial
 refine wp_symQ hS hG hK (fun p1=>[.n 2 #[.bool false,.string s,.int .i64 x] 23,.n 3 #[.bool false,.string s2,.int .i64 x2] 23,.n 4 #[.bool false,.string ⟨#[]⟩,.int .i64 0] 23,.v 5 (.int .i64 0)]) (fun p1=>[(2,.pointer (some ⟨(p1 0).N,0,none⟩)),(3,.pointer (some ⟨(p1 1).N,0,none⟩)),(4,.pointer (some ⟨(p1 2).N,0,none⟩)),(5,.int .i64 0)]) (by kernel_rfl) (fun _ _=>by kernel_rfl) (fun _=>by kernel_rfl) (fun _=>by kernel_rfl) (fun p1=>?_) (fun p1 W1 T hF hK=>?_)
 ·iterate 3 refine ok_n (fun _=>by kernel_rfl) ?_
  refine ok_v (by kernel_rfl) ?_
  exact ok_nil
 replace hS:=SymF.fb hS hF [1000,1001,1002] [⟨(p1 0).N,#[.bool false,.string s,.int .i64 x],23,true⟩,⟨(p1 1).N,#[.bool false,.string s2,.int .i64 x2],23,true⟩,⟨(p1 2).N,#[.bool false,.string ⟨#[]⟩,.int .i64 0],23,true⟩] (by kernel_rfl) (by kernel_rfl)
 replace hG:=hF.gx
 clear hF
 have z1:=hS.fr.size
 refine wp_symQ hS hG hK (fun p2=>[.l 16 (.agg #[.bool false,.string s,.int .i64 x]) 0 0,.l 17 (.agg #[.bool false,.string s2,.int .i64 x2]) 1 0,.c (some 18) (cV (.int .i64 0)),.v 6 (.int .i64 0)]) (fun p2=>[(2,.pointer (some ⟨(p1 0).N,0,none⟩)),(3,.pointer (some ⟨(p1 1).N,0,none⟩)),(4,.pointer (some ⟨(p1 2).N,0,none⟩)),(5,.int .i64 0),(6,.int .i64 0)]) (by kernel_rfl) (fun _ _=>by kernel_rfl) (fun _=>by kernel_rfl) (fun _=>by kernel_rfl) (fun p2=>?_) (fun p2 W2 T hF hK=>?_)
 ·iterate 2 refine ok_L (by kernel_rfl) (by kernel_rfl) (by kernel_rfl) ?_
  refine ok_c (fun W cx=>as_v (unhide HC _)) (by kernel_rfl) ?_
  refine ok_v (by kernel_rfl) ?_
  exact ok_nil
 replace hS:=SymF.fb hS hF [0,1,2] [⟨(p1 0).N,#[.bool false,.string s,.int .i64 x],23,true⟩,⟨(p1 1).N,#[.bool false,.string s2,.int .i64 x2],23,true⟩,⟨(p1 2).N,#[.bool false,.string ⟨#[]⟩,.int .i64 0],23,true⟩] (by kernel_rfl) (by kernel_rfl)
 replace hG:=hF.gx
 clear hF
 have z2:=hS.fr.size
 refine wp_seq ?_
 refine wp_symQ hS hG hK (fun p3=>[.v 19 (.int .i64 0),.v 20 (.bool false)]) (fun p3=>[(2,.pointer (some ⟨(p1 0).N,0,none⟩)),(3,.pointer (some ⟨(p1 1).N,0,none⟩)),(4,.pointer (some ⟨(p1 2).N,0,none⟩)),(5,.int .i64 0),(6,.int .i64 0),(20,.bool false)]) (by kernel_rfl) (fun _ _=>by kernel_rfl) (fun _=>by kernel_rfl) (fun _=>by kernel_rfl) (fun p3=>?_) (fun p3 W3 T hF hK=>?_)
 ·iterate 2 refine ok_v (by kernel_rfl) ?_
  exact ok_nil
 replace hS:=SymF.fb hS hF [0,1,2] [⟨(p1 0).N,#[.bool false,.string s,.int .i64 x],23,true⟩,⟨(p1 1).N,#[.bool false,.string s2,.int .i64 x2],23,true⟩,⟨(p1 2).N,#[.bool false,.string ⟨#[]⟩,.int .i64 0],23,true⟩] (by kernel_rfl) (by kernel_rfl)
 replace hG:=hF.gx
 clear hF
 have z3:=hS.fr.size
 refine wp_cond_false (hK.ev 20 (by kernel_rfl) _ (by kernel_rfl)) ?_
 refine wp_skip ?_
 refine then_n ?_
 refine wp_seq ?_
 refine wp_symQ hS hG hK (fun p4=>[.l 23 (.agg #[.bool false,.string s,.int .i64 x]) 0 0,.c (some 24) (cV (.bool true)),.v 25 (.bool true),.l 26 (.agg #[.bool false,.string s2,.int .i64 x2]) 1 0,.c (some 27) (cV (.bool true)),.v 28 (.bool true)]) (fun p4=>[(2,.pointer (some ⟨(p1 0).N,0,none⟩)),(3,.pointer (some ⟨(p1 1).N,0,none⟩)),(4,.pointer (some ⟨(p1 2).N,0,none⟩)),(5,.int .i64 0),(6,.int .i64 0),(20,.bool false),(28,.bool true)]) (by kernel_rfl) (fun _ _=>by kernel_rfl) (fun _=>by kernel_rfl) (fun _=>by kernel_rfl) (fun p4=>?_) (fun p4 W4 T hF hK=>?_)
 ·refine ok_L (by kernel_rfl) (by kernel_rfl) (by kernel_rfl) ?_
  refine ok_c (fun W cx=>as_v (rnone_t _ false s x ha)) (by kernel_rfl) ?_
  refine ok_v (by kernel_rfl) ?_
  refine ok_L (by kernel_rfl) (by kernel_rfl) (by kernel_rfl) ?_
  refine ok_c (fun W cx=>as_v (rnone_t _ false s2 x2 hb)) (by kernel_rfl) ?_
  refine ok_v (by kernel_rfl) ?_
  exact ok_nil
 replace hS:=SymF.fb hS hF [0,1,2] [⟨(p1 0).N,#[.bool false,.string s,.int .i64 x],23,true⟩,⟨(p1 1).N,#[.bool false,.string s2,.int .i64 x2],23,true⟩,⟨(p1 2).N,#[.bool false,.string ⟨#[]⟩,.int .i64 0],23,true⟩] (by kernel_rfl) (by kernel_rfl)
 replace hG:=hF.gx
 clear hF
 have z4:=hS.fr.size
 refine wp_cond_true (hK.ev 28 (by kernel_rfl) _ (by kernel_rfl)) ?_
 refine wp_symQ hS hG hK (fun p5=>[.v 29 (.pointer (some ⟨(p1 0).N,0,none⟩)),.l 30 (.bool false) 0 0,.v 31 (.bool false),.k (some 32),.k (some 33),.v 34 (.bool false),.v 35 (.agg #[.bool false,.string ⟨#[]⟩,.int .i64 0]),.p 2 0 [.bool false,.string ⟨#[]⟩,.int .i64 0],.v 5 (.int .i64 0)]) (fun p5=>[(2,.pointer (some ⟨(p1 0).N,0,none⟩)),(3,.pointer (some ⟨(p1 1).N,0,none⟩)),(4,.pointer (some ⟨(p1 2).N,0,none⟩)),(5,.int .i64 0),(6,.int .i64 0),(20,.bool false),(28,.bool true)]) (by kernel_rfl) (fun _ _=>by kernel_rfl) (fun _=>by kernel_rfl) (fun _=>by kernel_rfl) (fun p5=>?_) (fun p5 W5 T hF hK=>?_)
 ·refine ok_v (by kernel_rfl) ?_
  refine ok_L (by kernel_rfl) (by kernel_rfl) (by kernel_rfl) ?_
  refine ok_v (by kernel_rfl) ?_
  iterate 2 refine ok_K (by kernel_rfl) ?_
  iterate 2 refine ok_v (by kernel_rfl) ?_
  refine ok_P (by kernel_rfl) (by kernel_rfl) (by kernel_rfl) ?_
  refine ok_v (by kernel_rfl) ?_
  exact ok_nil
 replace hS:=SymF.fb hS hF [0,1,2] [⟨(p1 0).N,#[.bool false,.string s,.int .i64 x],23,true⟩,⟨(p1 1).N,#[.bool false,.string s2,.int .i64 x2],23,true⟩,⟨(p1 2).N,#[.bool false,.string ⟨#[]⟩,.int .i64 0],23,true⟩] (by kernel_rfl) (by kernel_rfl)
 replace hG:=hF.gx
 clear hF
 have z5:=hS.fr.size
 refine wp_ret ?_
 refine then_r ?_
 exact sym_end hS hK (.tuple #[.agg #[.bool false,.string ⟨#[]⟩,.int .i64 0],.int .i64 0]) [(2,0,3)] [.bool false,.string ⟨#[]⟩,.int .i64 0] (by kernel_rfl) (by kernel_rfl) ⟨rfl,hS.fr⟩
theorem radd_z1 (w:World) (g:Bool) (s:ByteArray) (x:Int) (g2:Bool) (s2:ByteArray) (x2:Int) (ha:s.size = 0) (hb:s2.size≠0) (HC:Hid (∀ W:World,Calls Try.prog 47 #[.agg #[.bool g,.string s,.int .i64 x],.agg #[.bool g2,.string s2,.int .i64 x2]] W fun e W'=>e = .returned (.int .i64 0)∧Below W.heap.size W W')) :
  Calls Try.prog 20 #[.agg #[.bool g,.string s,.int .i64 x],.agg #[.bool g2,.string s2,.int .i64 x2]] w fun en w'=>en = .returned (.tuple #[.agg #[.bool g2,.string s2,.int .i64 x2],.int .i64 0])∧Below w.heap.size w w':=by
 refine calls_sym Try.func20 rfl (by kernel_rfl) fun T hK=>?_
 replace hK:Kn T _ [(0,.agg #[.bool g,.string s,.int .i64 x]),(1,.agg #[.bool g2,.string s2,.int .i64 x2])]:=hK
 have hS:=Fb.begin w
 have hG:GsAt [] w:=trivial
 refine wp_symQ hS hG hK (fun p1=>[.n 2 #[.bool g,.string s,.int .i64 x] 23,.n 3 #[.bool g2,.string s2,.int .i64 x2] 23,.n 4 #[.bool false,.string ⟨#[]⟩,.int .i64 0] 23,.v 5 (.int .i64 0)]) (fun p1=>[(2,.pointer (some ⟨(p1 0).N,0,none⟩)),(3,.pointer (some ⟨(p1 1).N,0,none⟩)),(4,.pointer (some ⟨(p1 2).N,0,none⟩)),(5,.int .i64 0)]) (by kernel_rfl) (fun _ _=>by kernel_rfl) (fun _=>by kernel_rfl) (fun _=>by kernel_rfl) (fun p1=>?_) (fun p1 W1 T hF hK=>?_)
 ·iterate 3 refine ok_n (fun _=>by kernel_rfl) ?_
  refine ok_v (by kernel_rfl) ?_
  exact ok_nil
 replace hS:=SymF.fb hS hF [1000,1001,1002] [⟨(p1 0).N,#[.bool g,.string s,.int .i64 x],23,true⟩,⟨(p1 1).N,#[.bool g2,.string s2,.int .i64 x2],23,true⟩,⟨(p1 2).N,#[.bool false,.string ⟨#[]⟩,.int .i64 0],23,true⟩] (by kernel_rfl) (by kernel_rfl)
 replace hG:=hF.gx
 clear hF
 have z1:=hS.fr.size
 refine wp_symQ hS hG hK (fun p2=>[.l 16 (.agg #[.bool g,.string s,.int .i64 x]) 0 0,.l 17 (.agg #[.bool g2,.string s2,.int .i64 x2]) 1 0,.c (some 18) (cV (.int .i64 0)),.v 6 (.int .i64 0)]) (fun p2=>[(2,.pointer (some ⟨(p1 0).N,0,none⟩)),(3,.pointer (some ⟨(p1 1).N,0,none⟩)),(4,.pointer (some ⟨(p1 2).N,0,none⟩)),(5,.int .i64 0),(6,.int .i64 0)]) (by kernel_rfl) (fun _ _=>by kernel_rfl) (fun _=>by kernel_rfl) (fun _=>by kernel_rfl) (fun p2=>?_) (fun p2 W2 T hF hK=>?_)
 ·iterate 2 refine ok_L (by kernel_rfl) (by kernel_rfl) (by kernel_rfl) ?_
  refine ok_c (fun W cx=>as_v (unhide HC _)) (by kernel_rfl) ?_
  refine ok_v (by kernel_rfl) ?_
  exact ok_nil
 replace hS:=SymF.fb hS hF [0,1,2] [⟨(p1 0).N,#[.bool g,.string s,.int .i64 x],23,true⟩,⟨(p1 1).N,#[.bool g2,.string s2,.int .i64 x2],23,true⟩,⟨(p1 2).N,#[.bool false,.string ⟨#[]⟩,.int .i64 0],23,true⟩] (by kernel_rfl) (by kernel_rfl)
 replace hG:=hF.gx
 clear hF
 have z2:=hS.fr.size
 refine wp_seq ?_
 refine wp_symQ hS hG hK (fun p3=>[.v 19 (.int .i64 0),.v 20 (.bool false)]) (fun p3=>[(2,.pointer (some ⟨(p1 0).N,0,none⟩)),(3,.pointer (some ⟨(p1 1).N,0,none⟩)),(4,.pointer (some ⟨(p1 2).N,0,none⟩)),(5,.int .i64 0),(6,.int .i64 0),(20,.bool false)]) (by kernel_rfl) (fun _ _=>by kernel_rfl) (fun _=>by kernel_rfl) (fun _=>by kernel_rfl) (fun p3=>?_) (fun p3 W3 T hF hK=>?_)
 ·iterate 2 refine ok_v (by kernel_rfl) ?_
  exact ok_nil
 replace hS:=SymF.fb hS hF [0,1,2] [⟨(p1 0).N,#[.bool g,.string s,.int .i64 x],23,true⟩,⟨(p1 1).N,#[.bool g2,.string s2,.int .i64 x2],23,true⟩,⟨(p1 2).N,#[.bool false,.string ⟨#[]⟩,.int .i64 0],23,true⟩] (by kernel_rfl) (by kernel_rfl)
 replace hG:=hF.gx
 clear hF
 have z3:=hS.fr.size
 refine wp_cond_false (hK.ev 20 (by kernel_rfl) _ (by kernel_rfl)) ?_
 refine wp_skip ?_
 refine then_n ?_
 refine wp_seq ?_
 refine wp_symQ hS hG hK (fun p4=>[.l 23 (.agg #[.bool g,.string s,.int .i64 x]) 0 0,.c (some 24) (cV (.bool true)),.v 25 (.bool true),.l 26 (.agg #[.bool g2,.string s2,.int .i64 x2]) 1 0,.c (some 27) (cV (.bool false)),.v 28 (.bool false)]) (fun p4=>[(2,.pointer (some ⟨(p1 0).N,0,none⟩)),(3,.pointer (some ⟨(p1 1).N,0,none⟩)),(4,.pointer (some ⟨(p1 2).N,0,none⟩)),(5,.int .i64 0),(6,.int .i64 0),(20,.bool false),(28,.bool false)]) (by kernel_rfl) (fun _ _=>by kernel_rfl) (fun _=>by kernel_rfl) (fun _=>by kernel_rfl) (fun p4=>?_) (fun p4 W4 T hF hK=>?_)
 ·refine ok_L (by kernel_rfl) (by kernel_rfl) (by kernel_rfl) ?_
  refine ok_c (fun W cx=>as_v (rnone_t _ g s x ha)) (by kernel_rfl) ?_
  refine ok_v (by kernel_rfl) ?_
  refine ok_L (by kernel_rfl) (by kernel_rfl) (by kernel_rfl) ?_
  refine ok_c (fun W cx=>as_v (rnone_f _ g2 s2 x2 hb)) (by kernel_rfl) ?_
  refine ok_v (by kernel_rfl) ?_
  exact ok_nil
 replace hS:=SymF.fb hS hF [0,1,2] [⟨(p1 0).N,#[.bool g,.string s,.int .i64 x],23,true⟩,⟨(p1 1).N,#[.bool g2,.string s2,.int .i64 x2],23,true⟩,⟨(p1 2).N,#[.bool false,.string ⟨#[]⟩,.int .i64 0],23,true⟩] (by kernel_rfl) (by kernel_rfl)
 replace hG:=hF.gx
 clear hF
 have z4:=hS.fr.size
 refine wp_cond_false (hK.ev 28 (by kernel_rfl) _ (by kernel_rfl)) ?_
 refine wp_skip ?_
 refine then_n ?_
 refine wp_seq ?_
 refine wp_symQ hS hG hK (fun p5=>[.l 36 (.agg #[.bool g,.string s,.int .i64 x]) 0 0,.c (some 37) (cV (.bool true))]) (fun p5=>[(2,.pointer (some ⟨(p1 0).N,0,none⟩)),(3,.pointer (some ⟨(p1 1).N,0,none⟩)),(4,.pointer (some ⟨(p1 2).N,0,none⟩)),(5,.int .i64 0),(6,.int .i64 0),(20,.bool false),(28,.bool false),(37,.bool true)]) (by kernel_rfl) (fun _ _=>by kernel_rfl) (fun _=>by kernel_rfl) (fun _=>by kernel_rfl) (fun p5=>?_) (fun p5 W5 T hF hK=>?_)
 ·refine ok_L (by kernel_rfl) (by kernel_rfl) (by kernel_rfl) ?_
  refine ok_c (fun W cx=>as_v (rnone_t _ g s x ha)) (by kernel_rfl) ?_
  exact ok_nil
 replace hS:=SymF.fb hS hF [0,1,2] [⟨(p1 0).N,#[.bool g,.string s,.int .i64 x],23,true⟩,⟨(p1 1).N,#[.bool g2,.string s2,.int .i64 x2],23,true⟩,⟨(p1 2).N,#[.bool false,.string ⟨#[]⟩,.int .i64 0],23,true⟩] (by kernel_rfl) (by kernel_rfl)
 replace hG:=hF.gx
 clear hF
 have z5:=hS.fr.size
 refine wp_cond_true (hK.ev 37 (by kernel_rfl) _ (by kernel_rfl)) ?_
 refine wp_symQ hS hG hK (fun p6=>[.l 38 (.agg #[.bool g2,.string s2,.int .i64 x2]) 1 0,.p 2 0 [.bool g2,.string s2,.int .i64 x2],.v 5 (.int .i64 0)]) (fun p6=>[(2,.pointer (some ⟨(p1 0).N,0,none⟩)),(3,.pointer (some ⟨(p1 1).N,0,none⟩)),(4,.pointer (some ⟨(p1 2).N,0,none⟩)),(5,.int .i64 0),(6,.int .i64 0),(20,.bool false),(28,.bool false),(37,.bool true)]) (by kernel_rfl) (fun _ _=>by kernel_rfl) (fun _=>by kernel_rfl) (fun _=>by kernel_rfl) (fun p6=>?_) (fun p6 W6 T hF hK=>?_)
 ·refine ok_L (by kernel_rfl) (by kernel_rfl) (by kernel_rfl) ?_
  refine ok_P (by kernel_rfl) (by kernel_rfl) (by kernel_rfl) ?_
  refine ok_v (by kernel_rfl) ?_
  exact ok_nil
 replace hS:=SymF.fb hS hF [0,1,2] [⟨(p1 0).N,#[.bool g,.string s,.int .i64 x],23,true⟩,⟨(p1 1).N,#[.bool g2,.string s2,.int .i64 x2],23,true⟩,⟨(p1 2).N,#[.bool g2,.string s2,.int .i64 x2],23,true⟩] (by kernel_rfl) (by kernel_rfl)
 replace hG:=hF.gx
 clear hF
 have z6:=hS.fr.size
 refine wp_ret ?_
 refine then_r ?_
 exact sym_end hS hK (.tuple #[.agg #[.bool g2,.string s2,.int .i64 x2],.int .i64 0]) [(2,0,3)] [.bool g2,.string s2,.int .i64 x2] (by kernel_rfl) (by kernel_rfl) ⟨rfl,hS.fr⟩
theorem radd_z2 (w:World) (g:Bool) (s:ByteArray) (x:Int) (g2:Bool) (s2:ByteArray) (x2:Int) (ha:s.size≠0) (hb:s2.size = 0) (HC:Hid (∀ W:World,Calls Try.prog 47 #[.agg #[.bool g,.string s,.int .i64 x],.agg #[.bool g2,.string s2,.int .i64 x2]] W fun e W'=>e = .returned (.int .i64 0)∧Below W.heap.size W W')) :
  Calls Try.prog 20 #[.agg #[.bool g,.string s,.int .i64 x],.agg #[.bool g2,.string s2,.int .i64 x2]] w fun en w'=>en = .returned (.tuple #[.agg #[.bool g,.string s,.int .i64 x],.int .i64 0])∧Below w.heap.size w w':=by
 refine calls_sym Try.func20 rfl (by kernel_rfl) fun T hK=>?_
 replace hK:Kn T _ [(0,.agg #[.bool g,.string s,.int .i64 x]),(1,.agg #[.bool g2,.string s2,.int .i64 x2])]:=hK
 have hS:=Fb.begin w
 have hG:GsAt [] w:=trivial
 refine wp_symQ hS hG hK (fun p1=>[.n 2 #[.bool g,.string s,.int .i64 x] 23,.n 3 #[.bool g2,.string s2,.int .i64 x2] 23,.n 4 #[.bool false,.string ⟨#[]⟩,.int .i64 0] 23,.v 5 (.int .i64 0)]) (fun p1=>[(2,.pointer (some ⟨(p1 0).N,0,none⟩)),(3,.pointer (some ⟨(p1 1).N,0,none⟩)),(4,.pointer (some ⟨(p1 2).N,0,none⟩)),(5,.int .i64 0)]) (by kernel_rfl) (fun _ _=>by kernel_rfl) (fun _=>by kernel_rfl) (fun _=>by kernel_rfl) (fun p1=>?_) (fun p1 W1 T hF hK=>?_)
 ·iterate 3 refine ok_n (fun _=>by kernel_rfl) ?_
  refine ok_v (by kernel_rfl) ?_
  exact ok_nil
 replace hS:=SymF.fb hS hF [1000,1001,1002] [⟨(p1 0).N,#[.bool g,.string s,.int .i64 x],23,true⟩,⟨(p1 1).N,#[.bool g2,.string s2,.int .i64 x2],23,true⟩,⟨(p1 2).N,#[.bool false,.string ⟨#[]⟩,.int .i64 0],23,true⟩] (by kernel_rfl) (by kernel_rfl)
 replace hG:=hF.gx
 clear hF
 have z1:=hS.fr.size
 refine wp_symQ hS hG hK (fun p2=>[.l 16 (.agg #[.bool g,.string s,.int .i64 x]) 0 0,.l 17 (.agg #[.bool g2,.string s2,.int .i64 x2]) 1 0,.c (some 18) (cV (.int .i64 0)),.v 6 (.int .i64 0)]) (fun p2=>[(2,.pointer (some ⟨(p1 0).N,0,none⟩)),(3,.pointer (some ⟨(p1 1).N,0,none⟩)),(4,.pointer (some ⟨(p1 2).N,0,none⟩)),(5,.int .i64 0),(6,.int .i64 0)]) (by kernel_rfl) (fun _ _=>by kernel_rfl) (fun _=>by kernel_rfl) (fun _=>by kernel_rfl) (fun p2=>?_) (fun p2 W2 T hF hK=>?_)
 ·iterate 2 refine ok_L (by kernel_rfl) (by kernel_rfl) (by kernel_rfl) ?_
  refine ok_c (fun W cx=>as_v (unhide HC _)) (by kernel_rfl) ?_
  refine ok_v (by kernel_rfl) ?_
  exact ok_nil
 replace hS:=SymF.fb hS hF [0,1,2] [⟨(p1 0).N,#[.bool g,.string s,.int .i64 x],23,true⟩,⟨(p1 1).N,#[.bool g2,.string s2,.int .i64 x2],23,true⟩,⟨(p1 2).N,#[.bool false,.string ⟨#[]⟩,.int .i64 0],23,true⟩] (by kernel_rfl) (by kernel_rfl)
 replace hG:=hF.gx
 clear hF
 have z2:=hS.fr.size
 refine wp_seq ?_
 refine wp_symQ hS hG hK (fun p3=>[.v 19 (.int .i64 0),.v 20 (.bool false)]) (fun p3=>[(2,.pointer (some ⟨(p1 0).N,0,none⟩)),(3,.pointer (some ⟨(p1 1).N,0,none⟩)),(4,.pointer (some ⟨(p1 2).N,0,none⟩)),(5,.int .i64 0),(6,.int .i64 0),(20,.bool false)]) (by kernel_rfl) (fun _ _=>by kernel_rfl) (fun _=>by kernel_rfl) (fun _=>by kernel_rfl) (fun p3=>?_) (fun p3 W3 T hF hK=>?_)
 ·iterate 2 refine ok_v (by kernel_rfl) ?_
  exact ok_nil
 replace hS:=SymF.fb hS hF [0,1,2] [⟨(p1 0).N,#[.bool g,.string s,.int .i64 x],23,true⟩,⟨(p1 1).N,#[.bool g2,.string s2,.int .i64 x2],23,true⟩,⟨(p1 2).N,#[.bool false,.string ⟨#[]⟩,.int .i64 0],23,true⟩] (by kernel_rfl) (by kernel_rfl)
 replace hG:=hF.gx
 clear hF
 have z3:=hS.fr.size
 refine wp_cond_false (hK.ev 20 (by kernel_rfl) _ (by kernel_rfl)) ?_
 refine wp_skip ?_
 refine then_n ?_
 refine wp_seq ?_
 refine wp_symQ hS hG hK (fun p4=>[.l 23 (.agg #[.bool g,.string s,.int .i64 x]) 0 0,.c (some 24) (cV (.bool false)),.v 25 (.bool false),.k (some 26),.k (some 27),.v 28 (.bool false)]) (fun p4=>[(2,.pointer (some ⟨(p1 0).N,0,none⟩)),(3,.pointer (some ⟨(p1 1).N,0,none⟩)),(4,.pointer (some ⟨(p1 2).N,0,none⟩)),(5,.int .i64 0),(6,.int .i64 0),(20,.bool false),(28,.bool false)]) (by kernel_rfl) (fun _ _=>by kernel_rfl) (fun _=>by kernel_rfl) (fun _=>by kernel_rfl) (fun p4=>?_) (fun p4 W4 T hF hK=>?_)
 ·refine ok_L (by kernel_rfl) (by kernel_rfl) (by kernel_rfl) ?_
  refine ok_c (fun W cx=>as_v (rnone_f _ g s x ha)) (by kernel_rfl) ?_
  refine ok_v (by kernel_rfl) ?_
  iterate 2 refine ok_K (by kernel_rfl) ?_
  refine ok_v (by kernel_rfl) ?_
  exact ok_nil
 replace hS:=SymF.fb hS hF [0,1,2] [⟨(p1 0).N,#[.bool g,.string s,.int .i64 x],23,true⟩,⟨(p1 1).N,#[.bool g2,.string s2,.int .i64 x2],23,true⟩,⟨(p1 2).N,#[.bool false,.string ⟨#[]⟩,.int .i64 0],23,true⟩] (by kernel_rfl) (by kernel_rfl)
 replace hG:=hF.gx
 clear hF
 have z4:=hS.fr.size
 refine wp_cond_false (hK.ev 28 (by kernel_rfl) _ (by kernel_rfl)) ?_
 refine wp_skip ?_
 refine then_n ?_
 refine wp_seq ?_
 refine wp_symQ hS hG hK (fun p5=>[.l 36 (.agg #[.bool g,.string s,.int .i64 x]) 0 0,.c (some 37) (cV (.bool false))]) (fun p5=>[(2,.pointer (some ⟨(p1 0).N,0,none⟩)),(3,.pointer (some ⟨(p1 1).N,0,none⟩)),(4,.pointer (some ⟨(p1 2).N,0,none⟩)),(5,.int .i64 0),(6,.int .i64 0),(20,.bool false),(28,.bool false),(37,.bool false)]) (by kernel_rfl) (fun _ _=>by kernel_rfl) (fun _=>by kernel_rfl) (fun _=>by kernel_rfl) (fun p5=>?_) (fun p5 W5 T hF hK=>?_)
 ·refine ok_L (by kernel_rfl) (by kernel_rfl) (by kernel_rfl) ?_
  refine ok_c (fun W cx=>as_v (rnone_f _ g s x ha)) (by kernel_rfl) ?_
  exact ok_nil
 replace hS:=SymF.fb hS hF [0,1,2] [⟨(p1 0).N,#[.bool g,.string s,.int .i64 x],23,true⟩,⟨(p1 1).N,#[.bool g2,.string s2,.int .i64 x2],23,true⟩,⟨(p1 2).N,#[.bool false,.string ⟨#[]⟩,.int .i64 0],23,true⟩] (by kernel_rfl) (by kernel_rfl)
 replace hG:=hF.gx
 clear hF
 have z5:=hS.fr.size
 refine wp_cond_false (hK.ev 37 (by kernel_rfl) _ (by kernel_rfl)) ?_
 refine wp_skip ?_
 refine then_n ?_
 refine wp_seq ?_
 refine wp_symQ hS hG hK (fun p6=>[.l 39 (.agg #[.bool g2,.string s2,.int .i64 x2]) 1 0,.c (some 40) (cV (.bool true))]) (fun p6=>[(2,.pointer (some ⟨(p1 0).N,0,none⟩)),(3,.pointer (some ⟨(p1 1).N,0,none⟩)),(4,.pointer (some ⟨(p1 2).N,0,none⟩)),(5,.int .i64 0),(6,.int .i64 0),(20,.bool false),(28,.bool false),(37,.bool false),(40,.bool true)]) (by kernel_rfl) (fun _ _=>by kernel_rfl) (fun _=>by kernel_rfl) (fun _=>by kernel_rfl) (fun p6=>?_) (fun p6 W6 T hF hK=>?_)
 ·refine ok_L (by kernel_rfl) (by kernel_rfl) (by kernel_rfl) ?_
  refine ok_c (fun W cx=>as_v (rnone_t _ g2 s2 x2 hb)) (by kernel_rfl) ?_
  exact ok_nil
 replace hS:=SymF.fb hS hF [0,1,2] [⟨(p1 0).N,#[.bool g,.string s,.int .i64 x],23,true⟩,⟨(p1 1).N,#[.bool g2,.string s2,.int .i64 x2],23,true⟩,⟨(p1 2).N,#[.bool false,.string ⟨#[]⟩,.int .i64 0],23,true⟩] (by kernel_rfl) (by kernel_rfl)
 replace hG:=hF.gx
 clear hF
 have z6:=hS.fr.size
 refine wp_cond_true (hK.ev 40 (by kernel_rfl) _ (by kernel_rfl)) ?_
 refine wp_symQ hS hG hK (fun p7=>[.l 41 (.agg #[.bool g,.string s,.int .i64 x]) 0 0,.p 2 0 [.bool g,.string s,.int .i64 x],.v 5 (.int .i64 0)]) (fun p7=>[(2,.pointer (some ⟨(p1 0).N,0,none⟩)),(3,.pointer (some ⟨(p1 1).N,0,none⟩)),(4,.pointer (some ⟨(p1 2).N,0,none⟩)),(5,.int .i64 0),(6,.int .i64 0),(20,.bool false),(28,.bool false),(37,.bool false),(40,.bool true)]) (by kernel_rfl) (fun _ _=>by kernel_rfl) (fun _=>by kernel_rfl) (fun _=>by kernel_rfl) (fun p7=>?_) (fun p7 W7 T hF hK=>?_)
 ·refine ok_L (by kernel_rfl) (by kernel_rfl) (by kernel_rfl) ?_
  refine ok_P (by kernel_rfl) (by kernel_rfl) (by kernel_rfl) ?_
  refine ok_v (by kernel_rfl) ?_
  exact ok_nil
 replace hS:=SymF.fb hS hF [0,1,2] [⟨(p1 0).N,#[.bool g,.string s,.int .i64 x],23,true⟩,⟨(p1 1).N,#[.bool g2,.string s2,.int .i64 x2],23,true⟩,⟨(p1 2).N,#[.bool g,.string s,.int .i64 x],23,true⟩] (by kernel_rfl) (by kernel_rfl)
 replace hG:=hF.gx
 clear hF
 have z7:=hS.fr.size
 refine wp_ret ?_
 refine then_r ?_
 exact sym_end hS hK (.tuple #[.agg #[.bool g,.string s,.int .i64 x],.int .i64 0]) [(2,0,3)] [.bool g,.string s,.int .i64 x] (by kernel_rfl) (by kernel_rfl) ⟨rfl,hS.fr⟩
theorem radd_far1 (w:World) (g:Bool) (s:ByteArray) (x:Int) (g2:Bool) (s2:ByteArray) (x2:Int) (ex:Int) (o1 o2:Nat) (ha:s.size≠0) (hb:s2.size≠0) (hm:s.size≤65536) (_hm2:s2.size≤65536) (hx0:-1073741824≤x) (hx1:x≤1073741824) (hy0:-1073741824≤x2) (hy1:x2≤1073741824) (hmin:min x x2 = ex) (hz1:x - ex = (o1:Int)) (hz2:x2 - ex = (o2:Int)) (hf:65536 < s.size+o1) (HC:Hid (∀ W:World,Calls Try.prog 47 #[.agg #[.bool g,.string s,.int .i64 x],.agg #[.bool g2,.string s2,.int .i64 x2]] W fun e W'=>e = .returned (.int .i64 0)∧Below W.heap.size W W')) :
  Calls Try.prog 20 #[.agg #[.bool g,.string s,.int .i64 x],.agg #[.bool g2,.string s2,.int .i64 x2]] w fun en w'=>en = .returned (.tuple #[.agg #[.bool false,.string ⟨#[]⟩,.int .i64 0],.int .i64 4])∧Below w.heap.size w w':=by
 refine calls_sym Try.func20 rfl (by kernel_rfl) fun T hK=>?_
 replace hK:Kn T _ [(0,.agg #[.bool g,.string s,.int .i64 x]),(1,.agg #[.bool g2,.string s2,.int .i64 x2])]:=hK
 have hS:=Fb.begin w
 have hG:GsAt [] w:=trivial
 refine wp_symQ hS hG hK (fun p1=>[.n 2 #[.bool g,.string s,.int .i64 x] 23,.n 3 #[.bool g2,.string s2,.int .i64 x2] 23,.n 4 #[.bool false,.string ⟨#[]⟩,.int .i64 0] 23,.v 5 (.int .i64 0)]) (fun p1=>[(2,.pointer (some ⟨(p1 0).N,0,none⟩)),(3,.pointer (some ⟨(p1 1).N,0,none⟩)),(4,.pointer (some ⟨(p1 2).N,0,none⟩)),(5,.int .i64 0)]) (by kernel_rfl) (fun _ _=>by kernel_rfl) (fun _=>by kernel_rfl) (fun _=>by kernel_rfl) (fun p1=>?_) (fun p1 W1 T hF hK=>?_)
 ·iterate 3 refine ok_n (fun _=>by kernel_rfl) ?_
  refine ok_v (by kernel_rfl) ?_
  exact ok_nil
 replace hS:=SymF.fb hS hF [1000,1001,1002] [⟨(p1 0).N,#[.bool g,.string s,.int .i64 x],23,true⟩,⟨(p1 1).N,#[.bool g2,.string s2,.int .i64 x2],23,true⟩,⟨(p1 2).N,#[.bool false,.string ⟨#[]⟩,.int .i64 0],23,true⟩] (by kernel_rfl) (by kernel_rfl)
 replace hG:=hF.gx
 clear hF
 have z1:=hS.fr.size
 refine wp_symQ hS hG hK (fun p2=>[.l 16 (.agg #[.bool g,.string s,.int .i64 x]) 0 0,.l 17 (.agg #[.bool g2,.string s2,.int .i64 x2]) 1 0,.c (some 18) (cV (.int .i64 0)),.v 6 (.int .i64 0)]) (fun p2=>[(2,.pointer (some ⟨(p1 0).N,0,none⟩)),(3,.pointer (some ⟨(p1 1).N,0,none⟩)),(4,.pointer (some ⟨(p1 2).N,0,none⟩)),(5,.int .i64 0),(6,.int .i64 0)]) (by kernel_rfl) (fun _ _=>by kernel_rfl) (fun _=>by kernel_rfl) (fun _=>by kernel_rfl) (fun p2=>?_) (fun p2 W2 T hF hK=>?_)
 ·iterate 2 refine ok_L (by kernel_rfl) (by kernel_rfl) (by kernel_rfl) ?_
  refine ok_c (fun W cx=>as_v (unhide HC _)) (by kernel_rfl) ?_
  refine ok_v (by kernel_rfl) ?_
  exact ok_nil
 replace hS:=SymF.fb hS hF [0,1,2] [⟨(p1 0).N,#[.bool g,.string s,.int .i64 x],23,true⟩,⟨(p1 1).N,#[.bool g2,.string s2,.int .i64 x2],23,true⟩,⟨(p1 2).N,#[.bool false,.string ⟨#[]⟩,.int .i64 0],23,true⟩] (by kernel_rfl) (by kernel_rfl)
 replace hG:=hF.gx
 clear hF
 have z2:=hS.fr.size
 refine wp_seq ?_
 refine wp_symQ hS hG hK (fun p3=>[.v 19 (.int .i64 0),.v 20 (.bool false)]) (fun p3=>[(2,.pointer (some ⟨(p1 0).N,0,none⟩)),(3,.pointer (some ⟨(p1 1).N,0,none⟩)),(4,.pointer (some ⟨(p1 2).N,0,none⟩)),(5,.int .i64 0),(6,.int .i64 0),(20,.bool false)]) (by kernel_rfl) (fun _ _=>by kernel_rfl) (fun _=>by kernel_rfl) (fun _=>by kernel_rfl) (fun p3=>?_) (fun p3 W3 T hF hK=>?_)
 ·iterate 2 refine ok_v (by kernel_rfl) ?_
  exact ok_nil
 replace hS:=SymF.fb hS hF [0,1,2] [⟨(p1 0).N,#[.bool g,.string s,.int .i64 x],23,true⟩,⟨(p1 1).N,#[.bool g2,.string s2,.int .i64 x2],23,true⟩,⟨(p1 2).N,#[.bool false,.string ⟨#[]⟩,.int .i64 0],23,true⟩] (by kernel_rfl) (by kernel_rfl)
 replace hG:=hF.gx
 clear hF
 have z3:=hS.fr.size
 refine wp_cond_false (hK.ev 20 (by kernel_rfl) _ (by kernel_rfl)) ?_
 refine wp_skip ?_
 refine then_n ?_
 refine wp_seq ?_
 refine wp_symQ hS hG hK (fun p4=>[.l 23 (.agg #[.bool g,.string s,.int .i64 x]) 0 0,.c (some 24) (cV (.bool false)),.v 25 (.bool false),.k (some 26),.k (some 27),.v 28 (.bool false)]) (fun p4=>[(2,.pointer (some ⟨(p1 0).N,0,none⟩)),(3,.pointer (some ⟨(p1 1).N,0,none⟩)),(4,.pointer (some ⟨(p1 2).N,0,none⟩)),(5,.int .i64 0),(6,.int .i64 0),(20,.bool false),(28,.bool false)]) (by kernel_rfl) (fun _ _=>by kernel_rfl) (fun _=>by kernel_rfl) (fun _=>by kernel_rfl) (fun p4=>?_) (fun p4 W4 T hF hK=>?_)
 ·refine ok_L (by kernel_rfl) (by kernel_rfl) (by kernel_rfl) ?_
  refine ok_c (fun W cx=>as_v (rnone_f _ g s x ha)) (by kernel_rfl) ?_
  refine ok_v (by kernel_rfl) ?_
  iterate 2 refine ok_K (by kernel_rfl) ?_
  refine ok_v (by kernel_rfl) ?_
  exact ok_nil
 replace hS:=SymF.fb hS hF [0,1,2] [⟨(p1 0).N,#[.bool g,.string s,.int .i64 x],23,true⟩,⟨(p1 1).N,#[.bool g2,.string s2,.int .i64 x2],23,true⟩,⟨(p1 2).N,#[.bool false,.string ⟨#[]⟩,.int .i64 0],23,true⟩] (by kernel_rfl) (by kernel_rfl)
 replace hG:=hF.gx
 clear hF
 have z4:=hS.fr.size
 refine wp_cond_false (hK.ev 28 (by kernel_rfl) _ (by kernel_rfl)) ?_
 refine wp_skip ?_
 refine then_n ?_
 refine wp_seq ?_
 refine wp_symQ hS hG hK (fun p5=>[.l 36 (.agg #[.bool g,.string s,.int .i64 x]) 0 0,.c (some 37) (cV (.bool false))]) (fun p5=>[(2,.pointer (some ⟨(p1 0).N,0,none⟩)),(3,.pointer (some ⟨(p1 1).N,0,none⟩)),(4,.pointer (some ⟨(p1 2).N,0,none⟩)),(5,.int .i64 0),(6,.int .i64 0),(20,.bool false),(28,.bool false),(37,.bool false)]) (by kernel_rfl) (fun _ _=>by kernel_rfl) (fun _=>by kernel_rfl) (fun _=>by kernel_rfl) (fun p5=>?_) (fun p5 W5 T hF hK=>?_)
 ·refine ok_L (by kernel_rfl) (by kernel_rfl) (by kernel_rfl) ?_
  refine ok_c (fun W cx=>as_v (rnone_f _ g s x ha)) (by kernel_rfl) ?_
  exact ok_nil
 replace hS:=SymF.fb hS hF [0,1,2] [⟨(p1 0).N,#[.bool g,.string s,.int .i64 x],23,true⟩,⟨(p1 1).N,#[.bool g2,.string s2,.int .i64 x2],23,true⟩,⟨(p1 2).N,#[.bool false,.string ⟨#[]⟩,.int .i64 0],23,true⟩] (by kernel_rfl) (by kernel_rfl)
 replace hG:=hF.gx
 clear hF
 have z5:=hS.fr.size
 refine wp_cond_false (hK.ev 37 (by kernel_rfl) _ (by kernel_rfl)) ?_
 refine wp_skip ?_
 refine then_n ?_
 refine wp_seq ?_
 refine wp_symQ hS hG hK (fun p6=>[.l 39 (.agg #[.bool g2,.string s2,.int .i64 x2]) 1 0,.c (some 40) (cV (.bool false))]) (fun p6=>[(2,.pointer (some ⟨(p1 0).N,0,none⟩)),(3,.pointer (some ⟨(p1 1).N,0,none⟩)),(4,.pointer (some ⟨(p1 2).N,0,none⟩)),(5,.int .i64 0),(6,.int .i64 0),(20,.bool false),(28,.bool false),(37,.bool false),(40,.bool false)]) (by kernel_rfl) (fun _ _=>by kernel_rfl) (fun _=>by kernel_rfl) (fun _=>by kernel_rfl) (fun p6=>?_) (fun p6 W6 T hF hK=>?_)
 ·refine ok_L (by kernel_rfl) (by kernel_rfl) (by kernel_rfl) ?_
  refine ok_c (fun W cx=>as_v (rnone_f _ g2 s2 x2 hb)) (by kernel_rfl) ?_
  exact ok_nil
 replace hS:=SymF.fb hS hF [0,1,2] [⟨(p1 0).N,#[.bool g,.string s,.int .i64 x],23,true⟩,⟨(p1 1).N,#[.bool g2,.string s2,.int .i64 x2],23,true⟩,⟨(p1 2).N,#[.bool false,.string ⟨#[]⟩,.int .i64 0],23,true⟩] (by kernel_rfl) (by kernel_rfl)
 replace hG:=hF.gx
 clear hF
 have z6:=hS.fr.size
 refine wp_cond_false (hK.ev 40 (by kernel_rfl) _ (by kernel_rfl)) ?_
 refine wp_skip ?_
 refine then_n ?_
 refine wp_symQ hS hG hK (fun p7=>[.v 42 (.pointer (some ⟨(p1 0).N,2,none⟩)),.l 43 (.int .i64 x) 0 2,.v 44 (.pointer (some ⟨(p1 1).N,2,none⟩)),.l 45 (.int .i64 x2) 1 2,.v 46 (.int .i64 ex),.v 7 (.int .i64 ex)]) (fun p7=>[(2,.pointer (some ⟨(p1 0).N,0,none⟩)),(3,.pointer (some ⟨(p1 1).N,0,none⟩)),(4,.pointer (some ⟨(p1 2).N,0,none⟩)),(5,.int .i64 0),(6,.int .i64 0),(7,.int .i64 ex),(20,.bool false),(28,.bool false),(37,.bool false),(40,.bool false)]) (by kernel_rfl) (fun _ _=>by kernel_rfl) (fun _=>by kernel_rfl) (fun _=>by kernel_rfl) (fun p7=>?_) (fun p7 W7 T hF hK=>?_)
 ·refine ok_v (by kernel_rfl) ?_
  refine ok_L (by kernel_rfl) (by kernel_rfl) (by kernel_rfl) ?_
  refine ok_v (by kernel_rfl) ?_
  refine ok_L (by kernel_rfl) (by kernel_rfl) (by kernel_rfl) ?_
  refine ok_vi ((imin _ _).trans hmin) (by kernel_rfl) ?_
  refine ok_v (by kernel_rfl) ?_
  exact ok_nil
 replace hS:=SymF.fb hS hF [0,1,2] [⟨(p1 0).N,#[.bool g,.string s,.int .i64 x],23,true⟩,⟨(p1 1).N,#[.bool g2,.string s2,.int .i64 x2],23,true⟩,⟨(p1 2).N,#[.bool false,.string ⟨#[]⟩,.int .i64 0],23,true⟩] (by kernel_rfl) (by kernel_rfl)
 replace hG:=hF.gx
 clear hF
 have z7:=hS.fr.size
 refine wp_seq ?_
 refine wp_symQ hS hG hK (fun p8=>[.v 47 (.pointer (some ⟨(p1 0).N,1,none⟩)),.l 48 (.string s) 0 1,.v 49 (.int .i64 (s.size:Int)),.v 50 (.pointer (some ⟨(p1 0).N,2,none⟩)),.l 51 (.int .i64 x) 0 2,.v 52 (.int .i64 ((s.size:Int)+x)),.v 53 (.int .i64 ex),.v 54 (.int .i64 ((s.size:Int)+x - ex)),.v 55 (.bool true),.v 56 (.bool true),.k (some 57),.k (some 58),.k (some 59),.k (some 60),.k (some 61),.k (some 62),.k (some 63),.k (some 64),.k (some 65),.v 66 (.bool true)]) (fun p8=>[(2,.pointer (some ⟨(p1 0).N,0,none⟩)),(3,.pointer (some ⟨(p1 1).N,0,none⟩)),(4,.pointer (some ⟨(p1 2).N,0,none⟩)),(5,.int .i64 0),(6,.int .i64 0),(7,.int .i64 ex),(20,.bool false),(28,.bool false),(37,.bool false),(40,.bool false),(66,.bool true)]) (by kernel_rfl) (fun _ _=>by kernel_rfl) (fun _=>by kernel_rfl) (fun _=>by kernel_rfl) (fun p8=>?_) (fun p8 W8 T hF hK=>?_)
 ·refine ok_v (by kernel_rfl) ?_
  refine ok_L (by kernel_rfl) (by kernel_rfl) (by kernel_rfl) ?_
  iterate 2 refine ok_v (by kernel_rfl) ?_
  refine ok_L (by kernel_rfl) (by kernel_rfl) (by kernel_rfl) ?_
  refine ok_vi (wr64 (x:=(s.size:Int)+x) (by omega) (by omega)) (by kernel_rfl) ?_
  refine ok_v (by kernel_rfl) ?_
  refine ok_vi (wr64 (x:=(s.size:Int)+x - ex) (by omega) (by omega)) (by kernel_rfl) ?_
  refine ok_vb (decide_eq_true (show ((s.size:Int)+x - ex) > 65536 by omega)) (by kernel_rfl) ?_
  refine ok_v (by kernel_rfl) ?_
  iterate 9 refine ok_K (by kernel_rfl) ?_
  refine ok_v (by kernel_rfl) ?_
  exact ok_nil
 replace hS:=SymF.fb hS hF [0,1,2] [⟨(p1 0).N,#[.bool g,.string s,.int .i64 x],23,true⟩,⟨(p1 1).N,#[.bool g2,.string s2,.int .i64 x2],23,true⟩,⟨(p1 2).N,#[.bool false,.string ⟨#[]⟩,.int .i64 0],23,true⟩] (by kernel_rfl) (by kernel_rfl)
 replace hG:=hF.gx
 clear hF
 have z8:=hS.fr.size
 refine wp_cond_true (hK.ev 66 (by kernel_rfl) _ (by kernel_rfl)) ?_
 refine wp_symQ hS hG hK (fun p9=>[.v 67 (.agg #[.bool false,.string ⟨#[]⟩,.int .i64 0]),.p 2 0 [.bool false,.string ⟨#[]⟩,.int .i64 0],.v 5 (.int .i64 4)]) (fun p9=>[(2,.pointer (some ⟨(p1 0).N,0,none⟩)),(3,.pointer (some ⟨(p1 1).N,0,none⟩)),(4,.pointer (some ⟨(p1 2).N,0,none⟩)),(5,.int .i64 4),(6,.int .i64 0),(7,.int .i64 ex),(20,.bool false),(28,.bool false),(37,.bool false),(40,.bool false),(66,.bool true)]) (by kernel_rfl) (fun _ _=>by kernel_rfl) (fun _=>by kernel_rfl) (fun _=>by kernel_rfl) (fun p9=>?_) (fun p9 W9 T hF hK=>?_)
 ·refine ok_v (by kernel_rfl) ?_
  refine ok_P (by kernel_rfl) (by kernel_rfl) (by kernel_rfl) ?_
  refine ok_v (by kernel_rfl) ?_
  exact ok_nil
 replace hS:=SymF.fb hS hF [0,1,2] [⟨(p1 0).N,#[.bool g,.string s,.int .i64 x],23,true⟩,⟨(p1 1).N,#[.bool g2,.string s2,.int .i64 x2],23,true⟩,⟨(p1 2).N,#[.bool false,.string ⟨#[]⟩,.int .i64 0],23,true⟩] (by kernel_rfl) (by kernel_rfl)
 replace hG:=hF.gx
 clear hF
 have z9:=hS.fr.size
 refine wp_ret ?_
 refine then_r ?_
 exact sym_end hS hK (.tuple #[.agg #[.bool false,.string ⟨#[]⟩,.int .i64 0],.int .i64 4]) [(2,0,3)] [.bool false,.string ⟨#[]⟩,.int .i64 0] (by kernel_rfl) (by kernel_rfl) ⟨rfl,hS.fr⟩
theorem radd_far2 (w:World) (g:Bool) (s:ByteArray) (x:Int) (g2:Bool) (s2:ByteArray) (x2:Int) (ex:Int) (o1 o2:Nat) (ha:s.size≠0) (hb:s2.size≠0) (hm:s.size≤65536) (hm2:s2.size≤65536) (hx0:-1073741824≤x) (hx1:x≤1073741824) (hy0:-1073741824≤x2) (hy1:x2≤1073741824) (hmin:min x x2 = ex) (hz1:x - ex = (o1:Int)) (hz2:x2 - ex = (o2:Int)) (hn:s.size+o1≤65536) (hf:65536 < s2.size+o2) (HC:Hid (∀ W:World,Calls Try.prog 47 #[.agg #[.bool g,.string s,.int .i64 x],.agg #[.bool g2,.string s2,.int .i64 x2]] W fun e W'=>e = .returned (.int .i64 0)∧Below W.heap.size W W')) :
  Calls Try.prog 20 #[.agg #[.bool g,.string s,.int .i64 x],.agg #[.bool g2,.string s2,.int .i64 x2]] w fun en w'=>en = .returned (.tuple #[.agg #[.bool false,.string ⟨#[]⟩,.int .i64 0],.int .i64 4])∧Below w.heap.size w w':=by
 refine calls_sym Try.func20 rfl (by kernel_rfl) fun T hK=>?_
 replace hK:Kn T _ [(0,.agg #[.bool g,.string s,.int .i64 x]),(1,.agg #[.bool g2,.string s2,.int .i64 x2])]:=hK
 have hS:=Fb.begin w
 have hG:GsAt [] w:=trivial
 refine wp_symQ hS hG hK (fun p1=>[.n 2 #[.bool g,.string s,.int .i64 x] 23,.n 3 #[.bool g2,.string s2,.int .i64 x2] 23,.n 4 #[.bool false,.string ⟨#[]⟩,.int .i64 0] 23,.v 5 (.int .i64 0)]) (fun p1=>[(2,.pointer (some ⟨(p1 0).N,0,none⟩)),(3,.pointer (some ⟨(p1 1).N,0,none⟩)),(4,.pointer (some ⟨(p1 2).N,0,none⟩)),(5,.int .i64 0)]) (by kernel_rfl) (fun _ _=>by kernel_rfl) (fun _=>by kernel_rfl) (fun _=>by kernel_rfl) (fun p1=>?_) (fun p1 W1 T hF hK=>?_)
 ·iterate 3 refine ok_n (fun _=>by kernel_rfl) ?_
  refine ok_v (by kernel_rfl) ?_
  exact ok_nil
 replace hS:=SymF.fb hS hF [1000,1001,1002] [⟨(p1 0).N,#[.bool g,.string s,.int .i64 x],23,true⟩,⟨(p1 1).N,#[.bool g2,.string s2,.int .i64 x2],23,true⟩,⟨(p1 2).N,#[.bool false,.string ⟨#[]⟩,.int .i64 0],23,true⟩] (by kernel_rfl) (by kernel_rfl)
 replace hG:=hF.gx
 clear hF
 have z1:=hS.fr.size
 refine wp_symQ hS hG hK (fun p2=>[.l 16 (.agg #[.bool g,.string s,.int .i64 x]) 0 0,.l 17 (.agg #[.bool g2,.string s2,.int .i64 x2]) 1 0,.c (some 18) (cV (.int .i64 0)),.v 6 (.int .i64 0)]) (fun p2=>[(2,.pointer (some ⟨(p1 0).N,0,none⟩)),(3,.pointer (some ⟨(p1 1).N,0,none⟩)),(4,.pointer (some ⟨(p1 2).N,0,none⟩)),(5,.int .i64 0),(6,.int .i64 0)]) (by kernel_rfl) (fun _ _=>by kernel_rfl) (fun _=>by kernel_rfl) (fun _=>by kernel_rfl) (fun p2=>?_) (fun p2 W2 T hF hK=>?_)
 ·iterate 2 refine ok_L (by kernel_rfl) (by kernel_rfl) (by kernel_rfl) ?_
  refine ok_c (fun W cx=>as_v (unhide HC _)) (by kernel_rfl) ?_
  refine ok_v (by kernel_rfl) ?_
  exact ok_nil
 replace hS:=SymF.fb hS hF [0,1,2] [⟨(p1 0).N,#[.bool g,.string s,.int .i64 x],23,true⟩,⟨(p1 1).N,#[.bool g2,.string s2,.int .i64 x2],23,true⟩,⟨(p1 2).N,#[.bool false,.string ⟨#[]⟩,.int .i64 0],23,true⟩] (by kernel_rfl) (by kernel_rfl)
 replace hG:=hF.gx
 clear hF
 have z2:=hS.fr.size
 refine wp_seq ?_
 refine wp_symQ hS hG hK (fun p3=>[.v 19 (.int .i64 0),.v 20 (.bool false)]) (fun p3=>[(2,.pointer (some ⟨(p1 0).N,0,none⟩)),(3,.pointer (some ⟨(p1 1).N,0,none⟩)),(4,.pointer (some ⟨(p1 2).N,0,none⟩)),(5,.int .i64 0),(6,.int .i64 0),(20,.bool false)]) (by kernel_rfl) (fun _ _=>by kernel_rfl) (fun _=>by kernel_rfl) (fun _=>by kernel_rfl) (fun p3=>?_) (fun p3 W3 T hF hK=>?_)
 ·iterate 2 refine ok_v (by kernel_rfl) ?_
  exact ok_nil
 replace hS:=SymF.fb hS hF [0,1,2] [⟨(p1 0).N,#[.bool g,.string s,.int .i64 x],23,true⟩,⟨(p1 1).N,#[.bool g2,.string s2,.int .i64 x2],23,true⟩,⟨(p1 2).N,#[.bool false,.string ⟨#[]⟩,.int .i64 0],23,true⟩] (by kernel_rfl) (by kernel_rfl)
 replace hG:=hF.gx
 clear hF
 have z3:=hS.fr.size
 refine wp_cond_false (hK.ev 20 (by kernel_rfl) _ (by kernel_rfl)) ?_
 refine wp_skip ?_
 refine then_n ?_
 refine wp_seq ?_
 refine wp_symQ hS hG hK (fun p4=>[.l 23 (.agg #[.bool g,.string s,.int .i64 x]) 0 0,.c (some 24) (cV (.bool false)),.v 25 (.bool false),.k (some 26),.k (some 27),.v 28 (.bool false)]) (fun p4=>[(2,.pointer (some ⟨(p1 0).N,0,none⟩)),(3,.pointer (some ⟨(p1 1).N,0,none⟩)),(4,.pointer (some ⟨(p1 2).N,0,none⟩)),(5,.int .i64 0),(6,.int .i64 0),(20,.bool false),(28,.bool false)]) (by kernel_rfl) (fun _ _=>by kernel_rfl) (fun _=>by kernel_rfl) (fun _=>by kernel_rfl) (fun p4=>?_) (fun p4 W4 T hF hK=>?_)
 ·refine ok_L (by kernel_rfl) (by kernel_rfl) (by kernel_rfl) ?_
  refine ok_c (fun W cx=>as_v (rnone_f _ g s x ha)) (by kernel_rfl) ?_
  refine ok_v (by kernel_rfl) ?_
  iterate 2 refine ok_K (by kernel_rfl) ?_
  refine ok_v (by kernel_rfl) ?_
  exact ok_nil
 replace hS:=SymF.fb hS hF [0,1,2] [⟨(p1 0).N,#[.bool g,.string s,.int .i64 x],23,true⟩,⟨(p1 1).N,#[.bool g2,.string s2,.int .i64 x2],23,true⟩,⟨(p1 2).N,#[.bool false,.string ⟨#[]⟩,.int .i64 0],23,true⟩] (by kernel_rfl) (by kernel_rfl)
 replace hG:=hF.gx
 clear hF
 have z4:=hS.fr.size
 refine wp_cond_false (hK.ev 28 (by kernel_rfl) _ (by kernel_rfl)) ?_
 refine wp_skip ?_
 refine then_n ?_
 refine wp_seq ?_
 refine wp_symQ hS hG hK (fun p5=>[.l 36 (.agg #[.bool g,.string s,.int .i64 x]) 0 0,.c (some 37) (cV (.bool false))]) (fun p5=>[(2,.pointer (some ⟨(p1 0).N,0,none⟩)),(3,.pointer (some ⟨(p1 1).N,0,none⟩)),(4,.pointer (some ⟨(p1 2).N,0,none⟩)),(5,.int .i64 0),(6,.int .i64 0),(20,.bool false),(28,.bool false),(37,.bool false)]) (by kernel_rfl) (fun _ _=>by kernel_rfl) (fun _=>by kernel_rfl) (fun _=>by kernel_rfl) (fun p5=>?_) (fun p5 W5 T hF hK=>?_)
 ·refine ok_L (by kernel_rfl) (by kernel_rfl) (by kernel_rfl) ?_
  refine ok_c (fun W cx=>as_v (rnone_f _ g s x ha)) (by kernel_rfl) ?_
  exact ok_nil
 replace hS:=SymF.fb hS hF [0,1,2] [⟨(p1 0).N,#[.bool g,.string s,.int .i64 x],23,true⟩,⟨(p1 1).N,#[.bool g2,.string s2,.int .i64 x2],23,true⟩,⟨(p1 2).N,#[.bool false,.string ⟨#[]⟩,.int .i64 0],23,true⟩] (by kernel_rfl) (by kernel_rfl)
 replace hG:=hF.gx
 clear hF
 have z5:=hS.fr.size
 refine wp_cond_false (hK.ev 37 (by kernel_rfl) _ (by kernel_rfl)) ?_
 refine wp_skip ?_
 refine then_n ?_
 refine wp_seq ?_
 refine wp_symQ hS hG hK (fun p6=>[.l 39 (.agg #[.bool g2,.string s2,.int .i64 x2]) 1 0,.c (some 40) (cV (.bool false))]) (fun p6=>[(2,.pointer (some ⟨(p1 0).N,0,none⟩)),(3,.pointer (some ⟨(p1 1).N,0,none⟩)),(4,.pointer (some ⟨(p1 2).N,0,none⟩)),(5,.int .i64 0),(6,.int .i64 0),(20,.bool false),(28,.bool false),(37,.bool false),(40,.bool false)]) (by kernel_rfl) (fun _ _=>by kernel_rfl) (fun _=>by kernel_rfl) (fun _=>by kernel_rfl) (fun p6=>?_) (fun p6 W6 T hF hK=>?_)
 ·refine ok_L (by kernel_rfl) (by kernel_rfl) (by kernel_rfl) ?_
  refine ok_c (fun W cx=>as_v (rnone_f _ g2 s2 x2 hb)) (by kernel_rfl) ?_
  exact ok_nil
 replace hS:=SymF.fb hS hF [0,1,2] [⟨(p1 0).N,#[.bool g,.string s,.int .i64 x],23,true⟩,⟨(p1 1).N,#[.bool g2,.string s2,.int .i64 x2],23,true⟩,⟨(p1 2).N,#[.bool false,.string ⟨#[]⟩,.int .i64 0],23,true⟩] (by kernel_rfl) (by kernel_rfl)
 replace hG:=hF.gx
 clear hF
 have z6:=hS.fr.size
 refine wp_cond_false (hK.ev 40 (by kernel_rfl) _ (by kernel_rfl)) ?_
 refine wp_skip ?_
 refine then_n ?_
 refine wp_symQ hS hG hK (fun p7=>[.v 42 (.pointer (some ⟨(p1 0).N,2,none⟩)),.l 43 (.int .i64 x) 0 2,.v 44 (.pointer (some ⟨(p1 1).N,2,none⟩)),.l 45 (.int .i64 x2) 1 2,.v 46 (.int .i64 ex),.v 7 (.int .i64 ex)]) (fun p7=>[(2,.pointer (some ⟨(p1 0).N,0,none⟩)),(3,.pointer (some ⟨(p1 1).N,0,none⟩)),(4,.pointer (some ⟨(p1 2).N,0,none⟩)),(5,.int .i64 0),(6,.int .i64 0),(7,.int .i64 ex),(20,.bool false),(28,.bool false),(37,.bool false),(40,.bool false)]) (by kernel_rfl) (fun _ _=>by kernel_rfl) (fun _=>by kernel_rfl) (fun _=>by kernel_rfl) (fun p7=>?_) (fun p7 W7 T hF hK=>?_)
 ·refine ok_v (by kernel_rfl) ?_
  refine ok_L (by kernel_rfl) (by kernel_rfl) (by kernel_rfl) ?_
  refine ok_v (by kernel_rfl) ?_
  refine ok_L (by kernel_rfl) (by kernel_rfl) (by kernel_rfl) ?_
  refine ok_vi ((imin _ _).trans hmin) (by kernel_rfl) ?_
  refine ok_v (by kernel_rfl) ?_
  exact ok_nil
 replace hS:=SymF.fb hS hF [0,1,2] [⟨(p1 0).N,#[.bool g,.string s,.int .i64 x],23,true⟩,⟨(p1 1).N,#[.bool g2,.string s2,.int .i64 x2],23,true⟩,⟨(p1 2).N,#[.bool false,.string ⟨#[]⟩,.int .i64 0],23,true⟩] (by kernel_rfl) (by kernel_rfl)
 replace hG:=hF.gx
 clear hF
 have z7:=hS.fr.size
 refine wp_seq ?_
 refine wp_symQ hS hG hK (fun p8=>[.v 47 (.pointer (some ⟨(p1 0).N,1,none⟩)),.l 48 (.string s) 0 1,.v 49 (.int .i64 (s.size:Int)),.v 50 (.pointer (some ⟨(p1 0).N,2,none⟩)),.l 51 (.int .i64 x) 0 2,.v 52 (.int .i64 ((s.size:Int)+x)),.v 53 (.int .i64 ex),.v 54 (.int .i64 ((s.size:Int)+x - ex)),.v 55 (.bool false),.v 56 (.bool false),.v 57 (.pointer (some ⟨(p1 1).N,1,none⟩)),.l 58 (.string s2) 1 1,.v 59 (.int .i64 (s2.size:Int)),.v 60 (.pointer (some ⟨(p1 1).N,2,none⟩)),.l 61 (.int .i64 x2) 1 2,.v 62 (.int .i64 ((s2.size:Int)+x2)),.v 63 (.int .i64 ex),.v 64 (.int .i64 ((s2.size:Int)+x2 - ex)),.v 65 (.bool true),.v 66 (.bool true)]) (fun p8=>[(2,.pointer (some ⟨(p1 0).N,0,none⟩)),(3,.pointer (some ⟨(p1 1).N,0,none⟩)),(4,.pointer (some ⟨(p1 2).N,0,none⟩)),(5,.int .i64 0),(6,.int .i64 0),(7,.int .i64 ex),(20,.bool false),(28,.bool false),(37,.bool false),(40,.bool false),(66,.bool true)]) (by kernel_rfl) (fun _ _=>by kernel_rfl) (fun _=>by kernel_rfl) (fun _=>by kernel_rfl) (fun p8=>?_) (fun p8 W8 T hF hK=>?_)
 ·refine ok_v (by kernel_rfl) ?_
  refine ok_L (by kernel_rfl) (by kernel_rfl) (by kernel_rfl) ?_
  iterate 2 refine ok_v (by kernel_rfl) ?_
  refine ok_L (by kernel_rfl) (by kernel_rfl) (by kernel_rfl) ?_
  refine ok_vi (wr64 (x:=(s.size:Int)+x) (by omega) (by omega)) (by kernel_rfl) ?_
  refine ok_v (by kernel_rfl) ?_
  refine ok_vi (wr64 (x:=(s.size:Int)+x - ex) (by omega) (by omega)) (by kernel_rfl) ?_
  refine ok_vb (decide_eq_false (show ¬ ((s.size:Int)+x - ex) > 65536 by omega)) (by kernel_rfl) ?_
  iterate 2 refine ok_v (by kernel_rfl) ?_
  refine ok_L (by kernel_rfl) (by kernel_rfl) (by kernel_rfl) ?_
  iterate 2 refine ok_v (by kernel_rfl) ?_
  refine ok_L (by kernel_rfl) (by kernel_rfl) (by kernel_rfl) ?_
  refine ok_vi (wr64 (x:=(s2.size:Int)+x2) (by omega) (by omega)) (by kernel_rfl) ?_
  refine ok_v (by kernel_rfl) ?_
  refine ok_vi (wr64 (x:=(s2.size:Int)+x2 - ex) (by omega) (by omega)) (by kernel_rfl) ?_
  refine ok_vb (decide_eq_true (show ((s2.size:Int)+x2 - ex) > 65536 by omega)) (by kernel_rfl) ?_
  refine ok_v (by kernel_rfl) ?_
  exact ok_nil
 replace hS:=SymF.fb hS hF [0,1,2] [⟨(p1 0).N,#[.bool g,.string s,.int .i64 x],23,true⟩,⟨(p1 1).N,#[.bool g2,.string s2,.int .i64 x2],23,true⟩,⟨(p1 2).N,#[.bool false,.string ⟨#[]⟩,.int .i64 0],23,true⟩] (by kernel_rfl) (by kernel_rfl)
 replace hG:=hF.gx
 clear hF
 have z8:=hS.fr.size
 refine wp_cond_true (hK.ev 66 (by kernel_rfl) _ (by kernel_rfl)) ?_
 refine wp_symQ hS hG hK (fun p9=>[.v 67 (.agg #[.bool false,.string ⟨#[]⟩,.int .i64 0]),.p 2 0 [.bool false,.string ⟨#[]⟩,.int .i64 0],.v 5 (.int .i64 4)]) (fun p9=>[(2,.pointer (some ⟨(p1 0).N,0,none⟩)),(3,.pointer (some ⟨(p1 1).N,0,none⟩)),(4,.pointer (some ⟨(p1 2).N,0,none⟩)),(5,.int .i64 4),(6,.int .i64 0),(7,.int .i64 ex),(20,.bool false),(28,.bool false),(37,.bool false),(40,.bool false),(66,.bool true)]) (by kernel_rfl) (fun _ _=>by kernel_rfl) (fun _=>by kernel_rfl) (fun _=>by kernel_rfl) (fun p9=>?_) (fun p9 W9 T hF hK=>?_)
 ·refine ok_v (by kernel_rfl) ?_
  refine ok_P (by kernel_rfl) (by kernel_rfl) (by kernel_rfl) ?_
  refine ok_v (by kernel_rfl) ?_
  exact ok_nil
 replace hS:=SymF.fb hS hF [0,1,2] [⟨(p1 0).N,#[.bool g,.string s,.int .i64 x],23,true⟩,⟨(p1 1).N,#[.bool g2,.string s2,.int .i64 x2],23,true⟩,⟨(p1 2).N,#[.bool false,.string ⟨#[]⟩,.int .i64 0],23,true⟩] (by kernel_rfl) (by kernel_rfl)
 replace hG:=hF.gx
 clear hF
 have z9:=hS.fr.size
 refine wp_ret ?_
 refine then_r ?_
 exact sym_end hS hK (.tuple #[.agg #[.bool false,.string ⟨#[]⟩,.int .i64 0],.int .i64 4]) [(2,0,3)] [.bool false,.string ⟨#[]⟩,.int .i64 0] (by kernel_rfl) (by kernel_rfl) ⟨rfl,hS.fr⟩
theorem radd_same (w:World) (g:Bool) (s:ByteArray) (x:Int) (s2:ByteArray) (x2:Int) (ex:Int) (o1 o2 M N:Nat) (t:ByteArray) (g3:Bool) (s3:ByteArray) (x3 e3:Int) (cc:Int) (ha:s.size≠0) (hb:s2.size≠0) (hm:s.size≤65536) (hm2:s2.size≤65536) (hx0:-1073741824≤x) (hx1:x≤1073741824) (hy0:-1073741824≤x2) (hy1:x2≤1073741824) (hmin:min x x2 = ex) (hz1:x - ex = (o1:Int)) (hz2:x2 - ex = (o2:Int)) (hn1:s.size+o1≤65536) (hn2:s2.size+o2≤65536) (HC:Hid (∀ W:World,Calls Try.prog 47 #[.agg #[.bool g,.string s,.int .i64 x],.agg #[.bool g,.string s2,.int .i64 x2]] W fun e W'=>e = .returned (.int .i64 0)∧Below W.heap.size W W')) (H1:Hid (∀ W:World,Calls Try.prog 51 #[.string (s ++ noS o1)] W fun en W'=>(∃ a n c,en = .returned (.agg #[.slice a n c])∧Mine W' W.heap.size a n c M)∧Below W.heap.size W W')) (H2:Hid (∀ W:World,Calls Try.prog 51 #[.string (s2 ++ noS o2)] W fun en W'=>(∃ a n c,en = .returned (.agg #[.slice a n c])∧Mine W' W.heap.size a n c N)∧Below W.heap.size W W')) (HK:Hid (∀ (W:World) (a:Option Addr) (n c:Nat) (a':Option Addr) (n' c':Nat),Num W a n M→Num W a' n' N→Calls Try.prog 53 #[.agg #[.slice a n c],.agg #[.slice a' n' c']] W fun en W'=>en = .returned (.tuple #[.int .i64 cc,.int .i64 0])∧Below W.heap.size W W')) (HA:Hid (∀ (W:World) (a:Option Addr) (n c:Nat) (a':Option Addr) (n' c':Nat),Num W a n M→Num W a' n' N→Calls Try.prog 54 #[.agg #[.slice a n c],.agg #[.slice a' n' c']] W fun en W'=>(∃ a n c,en = .returned (.tuple #[.agg #[.slice a n c],.int .i64 0])∧Mine W' W.heap.size a n c (M+N))∧Below W.heap.size W W')) (HT:Hid (∀ (W:World) (a:Option Addr) (n c:Nat),Num W a n (M+N)→Calls Try.prog 56 #[.agg #[.slice a n c]] W fun en W'=>en = .returned (.tuple #[.string t,.int .i64 0])∧Below W.heap.size W W')) (HM:Hid (∀ W:World,Calls Try.prog 17 #[.bool g,.string t,.int .i64 ex] W fun e W'=>e = .returned (.tuple #[.agg #[.bool g3,.string s3,.int .i64 x3],.int .i64 e3])∧Below W.heap.size W W')) :
  Calls Try.prog 20 #[.agg #[.bool g,.string s,.int .i64 x],.agg #[.bool g,.string s2,.int .i64 x2]] w fun en w'=>en = .returned (.tuple #[.agg #[.bool g3,.string s3,.int .i64 x3],.int .i64 e3])∧Below w.heap.size w w':=by
 have hcat1:script Try.prog 0 (Op.stringOp .add s (noS o1)) [] = some (.string (s ++ noS o1),[]):=script_cat (by rw [size_noS]; omega)
 have hcat2:script Try.prog 0 (Op.stringOp .add s2 (noS o2)) [] = some (.string (s2 ++ noS o2),[]):=script_cat (by rw [size_noS]; omega)
 refine calls_sym Try.func20 rfl (by kernel_rfl) fun T hK=>?_
 replace hK:Kn T _ [(0,.agg #[.bool g,.string s,.int .i64 x]),(1,.agg #[.bool g,.string s2,.int .i64 x2])]:=hK
 have hS:=Fb.begin w
 have hG:GsAt [] w:=trivial
 refine wp_symQ hS hG hK (fun p1=>[.n 2 #[.bool g,.string s,.int .i64 x] 23,.n 3 #[.bool g,.string s2,.int .i64 x2] 23,.n 4 #[.bool false,.string ⟨#[]⟩,.int .i64 0] 23,.v 5 (.int .i64 0)]) (fun p1=>[(2,.pointer (some ⟨(p1 0).N,0,none⟩)),(3,.pointer (some ⟨(p1 1).N,0,none⟩)),(4,.pointer (some ⟨(p1 2).N,0,none⟩)),(5,.int .i64 0)]) (by kernel_rfl) (fun _ _=>by kernel_rfl) (fun _=>by kernel_rfl) (fun _=>by kernel_rfl) (fun p1=>?_) (fun p1 W1 T hF hK=>?_)
 ·iterate 3 refine ok_n (fun _=>by kernel_rfl) ?_
  refine ok_v (by kernel_rfl) ?_
  exact ok_nil
 replace hS:=SymF.fb hS hF [1000,1001,1002] [⟨(p1 0).N,#[.bool g,.string s,.int .i64 x],23,true⟩,⟨(p1 1).N,#[.bool g,.string s2,.int .i64 x2],23,true⟩,⟨(p1 2).N,#[.bool false,.string ⟨#[]⟩,.int .i64 0],23,true⟩] (by kernel_rfl) (by kernel_rfl)
 replace hG:=hF.gx
 clear hF
 have z1:=hS.fr.size
 refine wp_symQ hS hG hK (fun p2=>[.l 16 (.agg #[.bool g,.string s,.int .i64 x]) 0 0,.l 17 (.agg #[.bool g,.string s2,.int .i64 x2]) 1 0,.c (some 18) (cV (.int .i64 0)),.v 6 (.int .i64 0)]) (fun p2=>[(2,.pointer (some ⟨(p1 0).N,0,none⟩)),(3,.pointer (some ⟨(p1 1).N,0,none⟩)),(4,.pointer (some ⟨(p1 2).N,0,none⟩)),(5,.int .i64 0),(6,.int .i64 0)]) (by kernel_rfl) (fun _ _=>by kernel_rfl) (fun _=>by kernel_rfl) (fun _=>by kernel_rfl) (fun p2=>?_) (fun p2 W2 T hF hK=>?_)
 ·iterate 2 refine ok_L (by kernel_rfl) (by kernel_rfl) (by kernel_rfl) ?_
  refine ok_c (fun W cx=>as_v (unhide HC _)) (by kernel_rfl) ?_
  refine ok_v (by kernel_rfl) ?_
  exact ok_nil
 replace hS:=SymF.fb hS hF [0,1,2] [⟨(p1 0).N,#[.bool g,.string s,.int .i64 x],23,true⟩,⟨(p1 1).N,#[.bool g,.string s2,.int .i64 x2],23,true⟩,⟨(p1 2).N,#[.bool false,.string ⟨#[]⟩,.int .i64 0],23,true⟩] (by kernel_rfl) (by kernel_rfl)
 replace hG:=hF.gx
 clear hF
 have z2:=hS.fr.size
 refine wp_seq ?_
 refine wp_symQ hS hG hK (fun p3=>[.v 19 (.int .i64 0),.v 20 (.bool false)]) (fun p3=>[(2,.pointer (some ⟨(p1 0).N,0,none⟩)),(3,.pointer (some ⟨(p1 1).N,0,none⟩)),(4,.pointer (some ⟨(p1 2).N,0,none⟩)),(5,.int .i64 0),(6,.int .i64 0),(20,.bool false)]) (by kernel_rfl) (fun _ _=>by kernel_rfl) (fun _=>by kernel_rfl) (fun _=>by kernel_rfl) (fun p3=>?_) (fun p3 W3 T hF hK=>?_)
 ·iterate 2 refine ok_v (by kernel_rfl) ?_
  exact ok_nil
 replace hS:=SymF.fb hS hF [0,1,2] [⟨(p1 0).N,#[.bool g,.string s,.int .i64 x],23,true⟩,⟨(p1 1).N,#[.bool g,.string s2,.int .i64 x2],23,true⟩,⟨(p1 2).N,#[.bool false,.string ⟨#[]⟩,.int .i64 0],23,true⟩] (by kernel_rfl) (by kernel_rfl)
 replace hG:=hF.gx
 clear hF
 have z3:=hS.fr.size
 refine wp_cond_false (hK.ev 20 (by kernel_rfl) _ (by kernel_rfl)) ?_
 refine wp_skip ?_
 refine then_n ?_
 refine wp_seq ?_
 refine wp_symQ hS hG hK (fun p4=>[.l 23 (.agg #[.bool g,.string s,.int .i64 x]) 0 0,.c (some 24) (cV (.bool false)),.v 25 (.bool false),.k (some 26),.k (some 27),.v 28 (.bool false)]) (fun p4=>[(2,.pointer (some ⟨(p1 0).N,0,none⟩)),(3,.pointer (some ⟨(p1 1).N,0,none⟩)),(4,.pointer (some ⟨(p1 2).N,0,none⟩)),(5,.int .i64 0),(6,.int .i64 0),(20,.bool false),(28,.bool false)]) (by kernel_rfl) (fun _ _=>by kernel_rfl) (fun _=>by kernel_rfl) (fun _=>by kernel_rfl) (fun p4=>?_) (fun p4 W4 T hF hK=>?_)
 ·refine ok_L (by kernel_rfl) (by kernel_rfl) (by kernel_rfl) ?_
  refine ok_c (fun W cx=>as_v (rnone_f _ g s x ha)) (by kernel_rfl) ?_
  refine ok_v (by kernel_rfl) ?_
  iterate 2 refine ok_K (by kernel_rfl) ?_
  refine ok_v (by kernel_rfl) ?_
  exact ok_nil
 replace hS:=SymF.fb hS hF [0,1,2] [⟨(p1 0).N,#[.bool g,.string s,.int .i64 x],23,true⟩,⟨(p1 1).N,#[.bool g,.string s2,.int .i64 x2],23,true⟩,⟨(p1 2).N,#[.bool false,.string ⟨#[]⟩,.int .i64 0],23,true⟩] (by kernel_rfl) (by kernel_rfl)
 replace hG:=hF.gx
 clear hF
 have z4:=hS.fr.size
 refine wp_cond_false (hK.ev 28 (by kernel_rfl) _ (by kernel_rfl)) ?_
 refine wp_skip ?_
 refine then_n ?_
 refine wp_seq ?_
 refine wp_symQ hS hG hK (fun p5=>[.l 36 (.agg #[.bool g,.string s,.int .i64 x]) 0 0,.c (some 37) (cV (.bool false))]) (fun p5=>[(2,.pointer (some ⟨(p1 0).N,0,none⟩)),(3,.pointer (some ⟨(p1 1).N,0,none⟩)),(4,.pointer (some ⟨(p1 2).N,0,none⟩)),(5,.int .i64 0),(6,.int .i64 0),(20,.bool false),(28,.bool false),(37,.bool false)]) (by kernel_rfl) (fun _ _=>by kernel_rfl) (fun _=>by kernel_rfl) (fun _=>by kernel_rfl) (fun p5=>?_) (fun p5 W5 T hF hK=>?_)
 ·refine ok_L (by kernel_rfl) (by kernel_rfl) (by kernel_rfl) ?_
  refine ok_c (fun W cx=>as_v (rnone_f _ g s x ha)) (by kernel_rfl) ?_
  exact ok_nil
 replace hS:=SymF.fb hS hF [0,1,2] [⟨(p1 0).N,#[.bool g,.string s,.int .i64 x],23,true⟩,⟨(p1 1).N,#[.bool g,.string s2,.int .i64 x2],23,true⟩,⟨(p1 2).N,#[.bool false,.string ⟨#[]⟩,.int .i64 0],23,true⟩] (by kernel_rfl) (by kernel_rfl)
 replace hG:=hF.gx
 clear hF
 have z5:=hS.fr.size
 refine wp_cond_false (hK.ev 37 (by kernel_rfl) _ (by kernel_rfl)) ?_
 refine wp_skip ?_
 refine then_n ?_
 refine wp_seq ?_
 refine wp_symQ hS hG hK (fun p6=>[.l 39 (.agg #[.bool g,.string s2,.int .i64 x2]) 1 0,.c (some 40) (cV (.bool false))]) (fun p6=>[(2,.pointer (some ⟨(p1 0).N,0,none⟩)),(3,.pointer (some ⟨(p1 1).N,0,none⟩)),(4,.pointer (some ⟨(p1 2).N,0,none⟩)),(5,.int .i64 0),(6,.int .i64 0),(20,.bool false),(28,.bool false),(37,.bool false),(40,.bool false)]) (by kernel_rfl) (fun _ _=>by kernel_rfl) (fun _=>by kernel_rfl) (fun _=>by kernel_rfl) (fun p6=>?_) (fun p6 W6 T hF hK=>?_)
 ·refine ok_L (by kernel_rfl) (by kernel_rfl) (by kernel_rfl) ?_
  refine ok_c (fun W cx=>as_v (rnone_f _ g s2 x2 hb)) (by kernel_rfl) ?_
  exact ok_nil
 replace hS:=SymF.fb hS hF [0,1,2] [⟨(p1 0).N,#[.bool g,.string s,.int .i64 x],23,true⟩,⟨(p1 1).N,#[.bool g,.string s2,.int .i64 x2],23,true⟩,⟨(p1 2).N,#[.bool false,.string ⟨#[]⟩,.int .i64 0],23,true⟩] (by kernel_rfl) (by kernel_rfl)
 replace hG:=hF.gx
 clear hF
 have z6:=hS.fr.size
 refine wp_cond_false (hK.ev 40 (by kernel_rfl) _ (by kernel_rfl)) ?_
 refine wp_skip ?_
 refine then_n ?_
 refine wp_symQ hS hG hK (fun p7=>[.v 42 (.pointer (some ⟨(p1 0).N,2,none⟩)),.l 43 (.int .i64 x) 0 2,.v 44 (.pointer (some ⟨(p1 1).N,2,none⟩)),.l 45 (.int .i64 x2) 1 2,.v 46 (.int .i64 ex),.v 7 (.int .i64 ex)]) (fun p7=>[(2,.pointer (some ⟨(p1 0).N,0,none⟩)),(3,.pointer (some ⟨(p1 1).N,0,none⟩)),(4,.pointer (some ⟨(p1 2).N,0,none⟩)),(5,.int .i64 0),(6,.int .i64 0),(7,.int .i64 ex),(20,.bool false),(28,.bool false),(37,.bool false),(40,.bool false)]) (by kernel_rfl) (fun _ _=>by kernel_rfl) (fun _=>by kernel_rfl) (fun _=>by kernel_rfl) (fun p7=>?_) (fun p7 W7 T hF hK=>?_)
 ·refine ok_v (by kernel_rfl) ?_
  refine ok_L (by kernel_rfl) (by kernel_rfl) (by kernel_rfl) ?_
  refine ok_v (by kernel_rfl) ?_
  refine ok_L (by kernel_rfl) (by kernel_rfl) (by kernel_rfl) ?_
  refine ok_vi ((imin _ _).trans hmin) (by kernel_rfl) ?_
  refine ok_v (by kernel_rfl) ?_
  exact ok_nil
 replace hS:=SymF.fb hS hF [0,1,2] [⟨(p1 0).N,#[.bool g,.string s,.int .i64 x],23,true⟩,⟨(p1 1).N,#[.bool g,.string s2,.int .i64 x2],23,true⟩,⟨(p1 2).N,#[.bool false,.string ⟨#[]⟩,.int .i64 0],23,true⟩] (by kernel_rfl) (by kernel_rfl)
 replace hG:=hF.gx
 clear hF
 have z7:=hS.fr.size
 refine wp_seq ?_
 refine wp_symQ hS hG hK (fun p8=>[.v 47 (.pointer (some ⟨(p1 0).N,1,none⟩)),.l 48 (.string s) 0 1,.v 49 (.int .i64 (s.size:Int)),.v 50 (.pointer (some ⟨(p1 0).N,2,none⟩)),.l 51 (.int .i64 x) 0 2,.v 52 (.int .i64 ((s.size:Int)+x)),.v 53 (.int .i64 ex),.v 54 (.int .i64 ((s.size:Int)+x - ex)),.v 55 (.bool false),.v 56 (.bool false),.v 57 (.pointer (some ⟨(p1 1).N,1,none⟩)),.l 58 (.string s2) 1 1,.v 59 (.int .i64 (s2.size:Int)),.v 60 (.pointer (some ⟨(p1 1).N,2,none⟩)),.l 61 (.int .i64 x2) 1 2,.v 62 (.int .i64 ((s2.size:Int)+x2)),.v 63 (.int .i64 ex),.v 64 (.int .i64 ((s2.size:Int)+x2 - ex)),.v 65 (.bool false),.v 66 (.bool false)]) (fun p8=>[(2,.pointer (some ⟨(p1 0).N,0,none⟩)),(3,.pointer (some ⟨(p1 1).N,0,none⟩)),(4,.pointer (some ⟨(p1 2).N,0,none⟩)),(5,.int .i64 0),(6,.int .i64 0),(7,.int .i64 ex),(20,.bool false),(28,.bool false),(37,.bool false),(40,.bool false),(66,.bool false)]) (by kernel_rfl) (fun _ _=>by kernel_rfl) (fun _=>by kernel_rfl) (fun _=>by kernel_rfl) (fun p8=>?_) (fun p8 W8 T hF hK=>?_)
 ·refine ok_v (by kernel_rfl) ?_
  refine ok_L (by kernel_rfl) (by kernel_rfl) (by kernel_rfl) ?_
  iterate 2 refine ok_v (by kernel_rfl) ?_
  refine ok_L (by kernel_rfl) (by kernel_rfl) (by kernel_rfl) ?_
  refine ok_vi (wr64 (x:=(s.size:Int)+x) (by omega) (by omega)) (by kernel_rfl) ?_
  refine ok_v (by kernel_rfl) ?_
  refine ok_vi (wr64 (x:=(s.size:Int)+x - ex) (by omega) (by omega)) (by kernel_rfl) ?_
  refine ok_vb (decide_eq_false (show ¬ ((s.size:Int)+x - ex) > 65536 by omega)) (by kernel_rfl) ?_
  iterate 2 refine ok_v (by kernel_rfl) ?_
  refine ok_L (by kernel_rfl) (by kernel_rfl) (by kernel_rfl) ?_
  iterate 2 refine ok_v (by kernel_rfl) ?_
  refine ok_L (by kernel_rfl) (by kernel_rfl) (by kernel_rfl) ?_
  refine ok_vi (wr64 (x:=(s2.size:Int)+x2) (by omega) (by omega)) (by kernel_rfl) ?_
  refine ok_v (by kernel_rfl) ?_
  refine ok_vi (wr64 (x:=(s2.size:Int)+x2 - ex) (by omega) (by omega)) (by kernel_rfl) ?_
  refine ok_vb (decide_eq_false (show ¬ ((s2.size:Int)+x2 - ex) > 65536 by omega)) (by kernel_rfl) ?_
  refine ok_v (by kernel_rfl) ?_
  exact ok_nil
 replace hS:=SymF.fb hS hF [0,1,2] [⟨(p1 0).N,#[.bool g,.string s,.int .i64 x],23,true⟩,⟨(p1 1).N,#[.bool g,.string s2,.int .i64 x2],23,true⟩,⟨(p1 2).N,#[.bool false,.string ⟨#[]⟩,.int .i64 0],23,true⟩] (by kernel_rfl) (by kernel_rfl)
 replace hG:=hF.gx
 clear hF
 have z8:=hS.fr.size
 refine wp_cond_false (hK.ev 66 (by kernel_rfl) _ (by kernel_rfl)) ?_
 refine wp_skip ?_
 refine then_n ?_
 refine wp_symQ hS hG hK (fun p9=>[.v 68 (.pointer (some ⟨(p1 0).N,1,none⟩)),.l 69 (.string s) 0 1,.v 70 (.pointer (some ⟨(p1 0).N,2,none⟩)),.l 71 (.int .i64 x) 0 2,.v 72 (.int .i64 ex),.v 73 (.int .i64 (o1:Int)),.c (some 74) (cV (.string (noS o1))),.v 75 (.string (s ++ noS o1)),.c (some 76) (cN W8.heap.size M),.v 77 (.pointer (some ⟨(p1 1).N,1,none⟩)),.l 78 (.string s2) 1 1,.v 79 (.pointer (some ⟨(p1 1).N,2,none⟩)),.l 80 (.int .i64 x2) 1 2,.v 81 (.int .i64 ex),.v 82 (.int .i64 (o2:Int)),.c (some 83) (cV (.string (noS o2))),.v 84 (.string (s2 ++ noS o2)),.c (some 85) (cN W8.heap.size N),.n 8 #[.slice none 0 0] 60,.n 9 #[.slice none 0 0] 60,.p 1018 0 [.slice (p9 8).A (p9 8).N (p9 8).C],.p 1019 0 [.slice (p9 17).A (p9 17).N (p9 17).C]]) (fun p9=>[(2,.pointer (some ⟨(p1 0).N,0,none⟩)),(3,.pointer (some ⟨(p1 1).N,0,none⟩)),(4,.pointer (some ⟨(p1 2).N,0,none⟩)),(5,.int .i64 0),(6,.int .i64 0),(7,.int .i64 ex),(8,.pointer (some ⟨(p9 18).N,0,none⟩)),(9,.pointer (some ⟨(p9 19).N,0,none⟩)),(20,.bool false),(28,.bool false),(37,.bool false),(40,.bool false),(66,.bool false)]) (by kernel_rfl) (fun _ _=>by kernel_rfl) (fun _=>by kernel_rfl) (fun _=>by kernel_rfl) (fun p9=>?_) (fun p9 W9 T hF hK=>?_)
 ·refine ok_v (by kernel_rfl) ?_
  refine ok_L (by kernel_rfl) (by kernel_rfl) (by kernel_rfl) ?_
  refine ok_v (by kernel_rfl) ?_
  refine ok_L (by kernel_rfl) (by kernel_rfl) (by kernel_rfl) ?_
  refine ok_v (by kernel_rfl) ?_
  refine ok_vi ((wr64 (x:=x - ex) (by omega) (by omega)).trans hz1) (by kernel_rfl) ?_
  refine ok_c (fun W cx=>as_v (rnoughts_any o1 (by omega) _)) (by kernel_rfl) ?_
  refine ok_vr (hcat1) (by kernel_rfl) ?_
  refine ok_c (fun W cx=>as_n cx.hb (unhide H1 _)) (by kernel_rfl) ?_
  refine ok_v (by kernel_rfl) ?_
  refine ok_L (by kernel_rfl) (by kernel_rfl) (by kernel_rfl) ?_
  refine ok_v (by kernel_rfl) ?_
  refine ok_L (by kernel_rfl) (by kernel_rfl) (by kernel_rfl) ?_
  refine ok_v (by kernel_rfl) ?_
  refine ok_vi ((wr64 (x:=x2 - ex) (by omega) (by omega)).trans hz2) (by kernel_rfl) ?_
  refine ok_c (fun W cx=>as_v (rnoughts_any o2 (by omega) _)) (by kernel_rfl) ?_
  refine ok_vr (hcat2) (by kernel_rfl) ?_
  refine ok_c (fun W cx=>as_n cx.hb (unhide H2 _)) (by kernel_rfl) ?_
  iterate 2 refine ok_n (fun _=>by kernel_rfl) ?_
  iterate 2 refine ok_P (by kernel_rfl) (by kernel_rfl) (by kernel_rfl) ?_
  exact ok_nil
 replace hS:=SymF.fb hS hF [0,1,2,1018,1019] [⟨(p1 0).N,#[.bool g,.string s,.int .i64 x],23,true⟩,⟨(p1 1).N,#[.bool g,.string s2,.int .i64 x2],23,true⟩,⟨(p1 2).N,#[.bool false,.string ⟨#[]⟩,.int .i64 0],23,true⟩,⟨(p9 18).N,#[.slice (p9 8).A (p9 8).N (p9 8).C],60,true⟩,⟨(p9 19).N,#[.slice (p9 17).A (p9 17).N (p9 17).C],60,true⟩] (by kernel_rfl) (by kernel_rfl)
 replace hG:GsAt (gM W8.heap.size (p9 8).A (p9 8).N (p9 8).C M :: gM W8.heap.size (p9 17).A (p9 17).N (p9 17).C N :: _) W9:=⟨hF.fx 8,hF.fx 17,hF.gx⟩
 clear hF
 have z9:=hS.fr.size
 refine wp_symQ hS hG hK (fun p10=>[.v 86 (.pointer (some ⟨(p1 0).N,0,none⟩)),.l 87 (.bool g) 0 0,.v 10 (.bool g)]) (fun p10=>[(2,.pointer (some ⟨(p1 0).N,0,none⟩)),(3,.pointer (some ⟨(p1 1).N,0,none⟩)),(4,.pointer (some ⟨(p1 2).N,0,none⟩)),(5,.int .i64 0),(6,.int .i64 0),(7,.int .i64 ex),(8,.pointer (some ⟨(p9 18).N,0,none⟩)),(9,.pointer (some ⟨(p9 19).N,0,none⟩)),(10,.bool g),(20,.bool false),(28,.bool false),(37,.bool false),(40,.bool false),(66,.bool false)]) (by kernel_rfl) (fun _ _=>by kernel_rfl) (fun _=>by kernel_rfl) (fun _=>by kernel_rfl) (fun p10=>?_) (fun p10 W10 T hF hK=>?_)
 ·refine ok_v (by kernel_rfl) ?_
  refine ok_L (by kernel_rfl) (by kernel_rfl) (by kernel_rfl) ?_
  refine ok_v (by kernel_rfl) ?_
  exact ok_nil
 replace hS:=SymF.fb hS hF [0,1,2,3,4] [⟨(p1 0).N,#[.bool g,.string s,.int .i64 x],23,true⟩,⟨(p1 1).N,#[.bool g,.string s2,.int .i64 x2],23,true⟩,⟨(p1 2).N,#[.bool false,.string ⟨#[]⟩,.int .i64 0],23,true⟩,⟨(p9 18).N,#[.slice (p9 8).A (p9 8).N (p9 8).C],60,true⟩,⟨(p9 19).N,#[.slice (p9 17).A (p9 17).N (p9 17).C],60,true⟩] (by kernel_rfl) (by kernel_rfl)
 replace hG:=hF.gx
 clear hF
 have z10:=hS.fr.size
 refine wp_symQ hS hG hK (fun p11=>[.n 11 #[.slice none 0 0] 60]) (fun p11=>[(2,.pointer (some ⟨(p1 0).N,0,none⟩)),(3,.pointer (some ⟨(p1 1).N,0,none⟩)),(4,.pointer (some ⟨(p1 2).N,0,none⟩)),(5,.int .i64 0),(6,.int .i64 0),(7,.int .i64 ex),(8,.pointer (some ⟨(p9 18).N,0,none⟩)),(9,.pointer (some ⟨(p9 19).N,0,none⟩)),(10,.bool g),(11,.pointer (some ⟨(p11 0).N,0,none⟩)),(20,.bool false),(28,.bool false),(37,.bool false),(40,.bool false),(66,.bool false)]) (by kernel_rfl) (fun _ _=>by kernel_rfl) (fun _=>by kernel_rfl) (fun _=>by kernel_rfl) (fun p11=>?_) (fun p11 W11 T hF hK=>?_)
 ·refine ok_n (fun _=>by kernel_rfl) ?_
  exact ok_nil
 replace hS:=SymF.fb hS hF [0,1,2,3,4,1000] [⟨(p1 0).N,#[.bool g,.string s,.int .i64 x],23,true⟩,⟨(p1 1).N,#[.bool g,.string s2,.int .i64 x2],23,true⟩,⟨(p1 2).N,#[.bool false,.string ⟨#[]⟩,.int .i64 0],23,true⟩,⟨(p9 18).N,#[.slice (p9 8).A (p9 8).N (p9 8).C],60,true⟩,⟨(p9 19).N,#[.slice (p9 17).A (p9 17).N (p9 17).C],60,true⟩,⟨(p11 0).N,#[.slice none 0 0],60,true⟩] (by kernel_rfl) (by kernel_rfl)
 replace hG:=hF.gx
 clear hF
 have z11:=hS.fr.size
 refine wp_symQ hS hG hK (fun p12=>[.l 89 (.agg #[.slice (p9 8).A (p9 8).N (p9 8).C]) 3 0,.l 90 (.agg #[.slice (p9 17).A (p9 17).N (p9 17).C]) 4 0,.c (some 91) (cV (.tuple #[.int .i64 cc,.int .i64 0])),.v 88 (.tuple #[.int .i64 cc,.int .i64 0]),.v 92 (.int .i64 cc),.v 93 (.int .i64 0),.v 12 (.int .i64 cc),.v 13 (.int .i64 0)]) (fun p12=>[(2,.pointer (some ⟨(p1 0).N,0,none⟩)),(3,.pointer (some ⟨(p1 1).N,0,none⟩)),(4,.pointer (some ⟨(p1 2).N,0,none⟩)),(5,.int .i64 0),(6,.int .i64 0),(7,.int .i64 ex),(8,.pointer (some ⟨(p9 18).N,0,none⟩)),(9,.pointer (some ⟨(p9 19).N,0,none⟩)),(10,.bool g),(11,.pointer (some ⟨(p11 0).N,0,none⟩)),(12,.int .i64 cc),(20,.bool false),(28,.bool false),(37,.bool false),(40,.bool false),(66,.bool false)]) (by kernel_rfl) (fun _ _=>by kernel_rfl) (fun _=>by kernel_rfl) (fun _=>by kernel_rfl) (fun p12=>?_) (fun p12 W12 T hF hK=>?_)
 ·iterate 2 refine ok_L (by kernel_rfl) (by kernel_rfl) (by kernel_rfl) ?_
  refine ok_c (fun W cx=>as_v (unhide HK _ _ _ (p9 8).C _ _ (p9 17).C (Mine.num cx.G.1) (Mine.num cx.G.2.1))) (by kernel_rfl) ?_
  iterate 5 refine ok_v (by kernel_rfl) ?_
  exact ok_nil
 replace hS:=SymF.fb hS hF [0,1,2,3,4,5] [⟨(p1 0).N,#[.bool g,.string s,.int .i64 x],23,true⟩,⟨(p1 1).N,#[.bool g,.string s2,.int .i64 x2],23,true⟩,⟨(p1 2).N,#[.bool false,.string ⟨#[]⟩,.int .i64 0],23,true⟩,⟨(p9 18).N,#[.slice (p9 8).A (p9 8).N (p9 8).C],60,true⟩,⟨(p9 19).N,#[.slice (p9 17).A (p9 17).N (p9 17).C],60,true⟩,⟨(p11 0).N,#[.slice none 0 0],60,true⟩] (by kernel_rfl) (by kernel_rfl)
 replace hG:=hF.gx
 clear hF
 have z12:=hS.fr.size
 refine wp_seq ?_
 refine wp_block ?_
 refine wp_symQ hS hG hK (fun p13=>[.v 104 (.pointer (some ⟨(p1 0).N,0,none⟩)),.l 105 (.bool g) 0 0,.v 106 (.pointer (some ⟨(p1 1).N,0,none⟩)),.l 107 (.bool g) 1 0,.v 108 (.bool true),.v 103 (.bool true)]) (fun p13=>[(2,.pointer (some ⟨(p1 0).N,0,none⟩)),(3,.pointer (some ⟨(p1 1).N,0,none⟩)),(4,.pointer (some ⟨(p1 2).N,0,none⟩)),(5,.int .i64 0),(6,.int .i64 0),(7,.int .i64 ex),(8,.pointer (some ⟨(p9 18).N,0,none⟩)),(9,.pointer (some ⟨(p9 19).N,0,none⟩)),(10,.bool g),(11,.pointer (some ⟨(p11 0).N,0,none⟩)),(12,.int .i64 cc),(20,.bool false),(28,.bool false),(37,.bool false),(40,.bool false),(66,.bool false),(103,.bool true)]) (by kernel_rfl) (fun _ _=>by kernel_rfl) (fun _=>by kernel_rfl) (fun _=>by kernel_rfl) (fun p13=>?_) (fun p13 W13 T hF hK=>?_)
 ·refine ok_v (by kernel_rfl) ?_
  refine ok_L (by kernel_rfl) (by kernel_rfl) (by kernel_rfl) ?_
  refine ok_v (by kernel_rfl) ?_
  refine ok_L (by kernel_rfl) (by kernel_rfl) (by kernel_rfl) ?_
  refine ok_vb (beq_self_eq_true g) (by kernel_rfl) ?_
  refine ok_v (by kernel_rfl) ?_
  exact ok_nil
 replace hS:=SymF.fb hS hF [0,1,2,3,4,5] [⟨(p1 0).N,#[.bool g,.string s,.int .i64 x],23,true⟩,⟨(p1 1).N,#[.bool g,.string s2,.int .i64 x2],23,true⟩,⟨(p1 2).N,#[.bool false,.string ⟨#[]⟩,.int .i64 0],23,true⟩,⟨(p9 18).N,#[.slice (p9 8).A (p9 8).N (p9 8).C],60,true⟩,⟨(p9 19).N,#[.slice (p9 17).A (p9 17).N (p9 17).C],60,true⟩,⟨(p11 0).N,#[.slice none 0 0],60,true⟩] (by kernel_rfl) (by kernel_rfl)
 replace hG:=hF.gx
 clear hF
 have z13:=hS.fr.size
 refine wp_cond_true (hK.ev 103 (by kernel_rfl) _ (by kernel_rfl)) ?_
 refine wp_symG hS hG hK (fun p14=>[.l 110 (.agg #[.slice (p9 8).A (p9 8).N (p9 8).C]) 3 0,.l 111 (.agg #[.slice (p9 17).A (p9 17).N (p9 17).C]) 4 0,.c (some 112) (cO W13.heap.size (M+N)),.v 109 (.tuple #[.agg #[.slice (p14 2).A (p14 2).N (p14 2).C],.int .i64 0]),.v 113 (.agg #[.slice (p14 2).A (p14 2).N (p14 2).C]),.v 114 (.int .i64 0),.p 5 0 [.slice (p14 2).A (p14 2).N (p14 2).C]]) (fun p14=>[(2,.pointer (some ⟨(p1 0).N,0,none⟩)),(3,.pointer (some ⟨(p1 1).N,0,none⟩)),(4,.pointer (some ⟨(p1 2).N,0,none⟩)),(5,.int .i64 0),(6,.int .i64 0),(7,.int .i64 ex),(8,.pointer (some ⟨(p9 18).N,0,none⟩)),(9,.pointer (some ⟨(p9 19).N,0,none⟩)),(10,.bool g),(11,.pointer (some ⟨(p11 0).N,0,none⟩)),(12,.int .i64 cc),(20,.bool false),(28,.bool false),(37,.bool false),(40,.bool false),(66,.bool false),(103,.bool true)]) (by kernel_rfl) (fun _ _=>by kernel_rfl) (fun _=>by kernel_rfl) (fun _=>by kernel_rfl) (fun p14=>?_) (fun p14 W14 T hF hK=>?_)
 ·iterate 2 refine ok_L (by kernel_rfl) (by kernel_rfl) (by kernel_rfl) ?_
  refine ok_c (fun W cx=>as_o cx.hb (unhide HA _ _ _ (p9 8).C _ _ (p9 17).C (Mine.num cx.G.1) (Mine.num cx.G.2.1))) (by kernel_rfl) ?_
  iterate 3 refine ok_v (by kernel_rfl) ?_
  refine ok_P (by kernel_rfl) (by kernel_rfl) (by kernel_rfl) ?_
  exact ok_nil
 replace hS:=SymF.fb hS hF [0,1,2,3,4,5] [⟨(p1 0).N,#[.bool g,.string s,.int .i64 x],23,true⟩,⟨(p1 1).N,#[.bool g,.string s2,.int .i64 x2],23,true⟩,⟨(p1 2).N,#[.bool false,.string ⟨#[]⟩,.int .i64 0],23,true⟩,⟨(p9 18).N,#[.slice (p9 8).A (p9 8).N (p9 8).C],60,true⟩,⟨(p9 19).N,#[.slice (p9 17).A (p9 17).N (p9 17).C],60,true⟩,⟨(p11 0).N,#[.slice (p14 2).A (p14 2).N (p14 2).C],60,true⟩] (by kernel_rfl) (by kernel_rfl)
 replace hG:GsAt (gM W13.heap.size (p14 2).A (p14 2).N (p14 2).C (M+N) :: _) W14:=⟨hF.fx 2,hF.gx⟩
 clear hF
 have z14:=hS.fr.size
 refine inb_n ?_
 refine then_n ?_
 refine wp_symQ hS hG hK (fun p15=>[.l 129 (.agg #[.slice (p14 2).A (p14 2).N (p14 2).C]) 5 0,.c (some 130) (cV (.tuple #[.string t,.int .i64 0])),.v 128 (.tuple #[.string t,.int .i64 0]),.v 131 (.string t),.v 132 (.int .i64 0),.v 14 (.string t),.v 15 (.int .i64 0)]) (fun p15=>[(2,.pointer (some ⟨(p1 0).N,0,none⟩)),(3,.pointer (some ⟨(p1 1).N,0,none⟩)),(4,.pointer (some ⟨(p1 2).N,0,none⟩)),(5,.int .i64 0),(6,.int .i64 0),(7,.int .i64 ex),(8,.pointer (some ⟨(p9 18).N,0,none⟩)),(9,.pointer (some ⟨(p9 19).N,0,none⟩)),(10,.bool g),(11,.pointer (some ⟨(p11 0).N,0,none⟩)),(12,.int .i64 cc),(14,.string t),(20,.bool false),(28,.bool false),(37,.bool false),(40,.bool false),(66,.bool false),(103,.bool true)]) (by kernel_rfl) (fun _ _=>by kernel_rfl) (fun _=>by kernel_rfl) (fun _=>by kernel_rfl) (fun p15=>?_) (fun p15 W15 T hF hK=>?_)
 ·refine ok_L (by kernel_rfl) (by kernel_rfl) (by kernel_rfl) ?_
  refine ok_c (fun W cx=>as_v (unhide HT _ _ _ (p14 2).C (Mine.num cx.G.1))) (by kernel_rfl) ?_
  iterate 5 refine ok_v (by kernel_rfl) ?_
  exact ok_nil
 replace hS:=SymF.fb hS hF [0,1,2,3,4,5] [⟨(p1 0).N,#[.bool g,.string s,.int .i64 x],23,true⟩,⟨(p1 1).N,#[.bool g,.string s2,.int .i64 x2],23,true⟩,⟨(p1 2).N,#[.bool false,.string ⟨#[]⟩,.int .i64 0],23,true⟩,⟨(p9 18).N,#[.slice (p9 8).A (p9 8).N (p9 8).C],60,true⟩,⟨(p9 19).N,#[.slice (p9 17).A (p9 17).N (p9 17).C],60,true⟩,⟨(p11 0).N,#[.slice (p14 2).A (p14 2).N (p14 2).C],60,true⟩] (by kernel_rfl) (by kernel_rfl)
 replace hG:=hF.gx
 clear hF
 have z15:=hS.fr.size
 refine wp_symQ hS hG hK (fun p16=>[.v 133 (.bool g),.v 134 (.string t),.v 135 (.int .i64 ex),.c (some 136) (cV (.tuple #[.agg #[.bool g3,.string s3,.int .i64 x3],.int .i64 e3])),.v 137 (.agg #[.bool g3,.string s3,.int .i64 x3]),.v 138 (.int .i64 e3),.p 2 0 [.bool g3,.string s3,.int .i64 x3],.v 5 (.int .i64 e3)]) (fun p16=>[(2,.pointer (some ⟨(p1 0).N,0,none⟩)),(3,.pointer (some ⟨(p1 1).N,0,none⟩)),(4,.pointer (some ⟨(p1 2).N,0,none⟩)),(5,.int .i64 e3),(6,.int .i64 0),(8,.pointer (some ⟨(p9 18).N,0,none⟩)),(9,.pointer (some ⟨(p9 19).N,0,none⟩)),(11,.pointer (some ⟨(p11 0).N,0,none⟩)),(12,.int .i64 cc),(20,.bool false),(28,.bool false),(37,.bool false),(40,.bool false),(66,.bool false),(103,.bool true)]) (by kernel_rfl) (fun _ _=>by kernel_rfl) (fun _=>by kernel_rfl) (fun _=>by kernel_rfl) (fun p16=>?_) (fun p16 W16 T hF hK=>?_)
 ·iterate 3 refine ok_v (by kernel_rfl) ?_
  refine ok_c (fun W cx=>as_v (unhide HM _)) (by kernel_rfl) ?_
  iterate 2 refine ok_v (by kernel_rfl) ?_
  refine ok_P (by kernel_rfl) (by kernel_rfl) (by kernel_rfl) ?_
  refine ok_v (by kernel_rfl) ?_
  exact ok_nil
 replace hS:=SymF.fb hS hF [0,1,2,3,4,5] [⟨(p1 0).N,#[.bool g,.string s,.int .i64 x],23,true⟩,⟨(p1 1).N,#[.bool g,.string s2,.int .i64 x2],23,true⟩,⟨(p1 2).N,#[.bool g3,.string s3,.int .i64 x3],23,true⟩,⟨(p9 18).N,#[.slice (p9 8).A (p9 8).N (p9 8).C],60,true⟩,⟨(p9 19).N,#[.slice (p9 17).A (p9 17).N (p9 17).C],60,true⟩,⟨(p11 0).N,#[.slice (p14 2).A (p14 2).N (p14 2).C],60,true⟩] (by kernel_rfl) (by kernel_rfl)
 replace hG:=hF.gx
 clear hF
 have z16:=hS.fr.size
 refine wp_ret ?_
 exact sym_end hS hK (.tuple #[.agg #[.bool g3,.string s3,.int .i64 x3],.int .i64 e3]) [(2,0,3)] [.bool g3,.string s3,.int .i64 x3] (by kernel_rfl) (by kernel_rfl) ⟨rfl,hS.fr⟩
theorem radd_eq (w:World) (g:Bool) (s:ByteArray) (x:Int) (g2:Bool) (s2:ByteArray) (x2:Int) (ex:Int) (o1 o2 M N:Nat) (t:ByteArray) (g3:Bool) (s3:ByteArray) (x3 e3:Int) (ha:s.size≠0) (hb:s2.size≠0) (hm:s.size≤65536) (hm2:s2.size≤65536) (hx0:-1073741824≤x) (hx1:x≤1073741824) (hy0:-1073741824≤x2) (hy1:x2≤1073741824) (hmin:min x x2 = ex) (hz1:x - ex = (o1:Int)) (hz2:x2 - ex = (o2:Int)) (hn1:s.size+o1≤65536) (hn2:s2.size+o2≤65536) (hg:(g == g2) = false) (HC:Hid (∀ W:World,Calls Try.prog 47 #[.agg #[.bool g,.string s,.int .i64 x],.agg #[.bool g2,.string s2,.int .i64 x2]] W fun e W'=>e = .returned (.int .i64 0)∧Below W.heap.size W W')) (H1:Hid (∀ W:World,Calls Try.prog 51 #[.string (s ++ noS o1)] W fun en W'=>(∃ a n c,en = .returned (.agg #[.slice a n c])∧Mine W' W.heap.size a n c M)∧Below W.heap.size W W')) (H2:Hid (∀ W:World,Calls Try.prog 51 #[.string (s2 ++ noS o2)] W fun en W'=>(∃ a n c,en = .returned (.agg #[.slice a n c])∧Mine W' W.heap.size a n c N)∧Below W.heap.size W W')) (HK:Hid (∀ (W:World) (a:Option Addr) (n c:Nat) (a':Option Addr) (n' c':Nat),Num W a n M→Num W a' n' N→Calls Try.prog 53 #[.agg #[.slice a n c],.agg #[.slice a' n' c']] W fun en W'=>en = .returned (.tuple #[.int .i64 0,.int .i64 0])∧Below W.heap.size W W')) (HT:Hid (∀ (W:World) (a:Option Addr) (n c:Nat),Num W a n 0→Calls Try.prog 56 #[.agg #[.slice a n c]] W fun en W'=>en = .returned (.tuple #[.string t,.int .i64 0])∧Below W.heap.size W W')) (HM:Hid (∀ W:World,Calls Try.prog 17 #[.bool false,.string t,.int .i64 ex] W fun e W'=>e = .returned (.tuple #[.agg #[.bool g3,.string s3,.int .i64 x3],.int .i64 e3])∧Below W.heap.size W W')) :
  Calls Try.prog 20 #[.agg #[.bool g,.string s,.int .i64 x],.agg #[.bool g2,.string s2,.int .i64 x2]] w fun en w'=>en = .returned (.tuple #[.agg #[.bool g3,.string s3,.int .i64 x3],.int .i64 e3])∧Below w.heap.size w w':=by
 have hcat1:script Try.prog 0 (Op.stringOp .add s (noS o1)) [] = some (.string (s ++ noS o1),[]):=script_cat (by rw [size_noS]; omega)
 have hcat2:script Try.prog 0 (Op.stringOp .add s2 (noS o2)) [] = some (.string (s2 ++ noS o2),[]):=script_cat (by rw [size_noS]; omega)
 refine calls_sym Try.func20 rfl (by kernel_rfl) fun T hK=>?_
 replace hK:Kn T _ [(0,.agg #[.bool g,.string s,.int .i64 x]),(1,.agg #[.bool g2,.string s2,.int .i64 x2])]:=hK
 have hS:=Fb.begin w
 have hG:GsAt [] w:=trivial
 refine wp_symQ hS hG hK (fun p1=>[.n 2 #[.bool g,.string s,.int .i64 x] 23,.n 3 #[.bool g2,.string s2,.int .i64 x2] 23,.n 4 #[.bool false,.string ⟨#[]⟩,.int .i64 0] 23,.v 5 (.int .i64 0)]) (fun p1=>[(2,.pointer (some ⟨(p1 0).N,0,none⟩)),(3,.pointer (some ⟨(p1 1).N,0,none⟩)),(4,.pointer (some ⟨(p1 2).N,0,none⟩)),(5,.int .i64 0)]) (by kernel_rfl) (fun _ _=>by kernel_rfl) (fun _=>by kernel_rfl) (fun _=>by kernel_rfl) (fun p1=>?_) (fun p1 W1 T hF hK=>?_)
 ·iterate 3 refine ok_n (fun _=>by kernel_rfl) ?_
  refine ok_v (by kernel_rfl) ?_
  exact ok_nil
 replace hS:=SymF.fb hS hF [1000,1001,1002] [⟨(p1 0).N,#[.bool g,.string s,.int .i64 x],23,true⟩,⟨(p1 1).N,#[.bool g2,.string s2,.int .i64 x2],23,true⟩,⟨(p1 2).N,#[.bool false,.string ⟨#[]⟩,.int .i64 0],23,true⟩] (by kernel_rfl) (by kernel_rfl)
 replace hG:=hF.gx
 clear hF
 have z1:=hS.fr.size
 refine wp_symQ hS hG hK (fun p2=>[.l 16 (.agg #[.bool g,.string s,.int .i64 x]) 0 0,.l 17 (.agg #[.bool g2,.string s2,.int .i64 x2]) 1 0,.c (some 18) (cV (.int .i64 0)),.v 6 (.int .i64 0)]) (fun p2=>[(2,.pointer (some ⟨(p1 0).N,0,none⟩)),(3,.pointer (some ⟨(p1 1).N,0,none⟩)),(4,.pointer (some ⟨(p1 2).N,0,none⟩)),(5,.int .i64 0),(6,.int .i64 0)]) (by kernel_rfl) (fun _ _=>by kernel_rfl) (fun _=>by kernel_rfl) (fun _=>by kernel_rfl) (fun p2=>?_) (fun p2 W2 T hF hK=>?_)
 ·iterate 2 refine ok_L (by kernel_rfl) (by kernel_rfl) (by kernel_rfl) ?_
  refine ok_c (fun W cx=>as_v (unhide HC _)) (by kernel_rfl) ?_
  refine ok_v (by kernel_rfl) ?_
  exact ok_nil
 replace hS:=SymF.fb hS hF [0,1,2] [⟨(p1 0).N,#[.bool g,.string s,.int .i64 x],23,true⟩,⟨(p1 1).N,#[.bool g2,.string s2,.int .i64 x2],23,true⟩,⟨(p1 2).N,#[.bool false,.string ⟨#[]⟩,.int .i64 0],23,true⟩] (by kernel_rfl) (by kernel_rfl)
 replace hG:=hF.gx
 clear hF
 have z2:=hS.fr.size
 refine wp_seq ?_
 refine wp_symQ hS hG hK (fun p3=>[.v 19 (.int .i64 0),.v 20 (.bool false)]) (fun p3=>[(2,.pointer (some ⟨(p1 0).N,0,none⟩)),(3,.pointer (some ⟨(p1 1).N,0,none⟩)),(4,.pointer (some ⟨(p1 2).N,0,none⟩)),(5,.int .i64 0),(6,.int .i64 0),(20,.bool false)]) (by kernel_rfl) (fun _ _=>by kernel_rfl) (fun _=>by kernel_rfl) (fun _=>by kernel_rfl) (fun p3=>?_) (fun p3 W3 T hF hK=>?_)
 ·iterate 2 refine ok_v (by kernel_rfl) ?_
  exact ok_nil
 replace hS:=SymF.fb hS hF [0,1,2] [⟨(p1 0).N,#[.bool g,.string s,.int .i64 x],23,true⟩,⟨(p1 1).N,#[.bool g2,.string s2,.int .i64 x2],23,true⟩,⟨(p1 2).N,#[.bool false,.string ⟨#[]⟩,.int .i64 0],23,true⟩] (by kernel_rfl) (by kernel_rfl)
 replace hG:=hF.gx
 clear hF
 have z3:=hS.fr.size
 refine wp_cond_false (hK.ev 20 (by kernel_rfl) _ (by kernel_rfl)) ?_
 refine wp_skip ?_
 refine then_n ?_
 refine wp_seq ?_
 refine wp_symQ hS hG hK (fun p4=>[.l 23 (.agg #[.bool g,.string s,.int .i64 x]) 0 0,.c (some 24) (cV (.bool false)),.v 25 (.bool false),.k (some 26),.k (some 27),.v 28 (.bool false)]) (fun p4=>[(2,.pointer (some ⟨(p1 0).N,0,none⟩)),(3,.pointer (some ⟨(p1 1).N,0,none⟩)),(4,.pointer (some ⟨(p1 2).N,0,none⟩)),(5,.int .i64 0),(6,.int .i64 0),(20,.bool false),(28,.bool false)]) (by kernel_rfl) (fun _ _=>by kernel_rfl) (fun _=>by kernel_rfl) (fun _=>by kernel_rfl) (fun p4=>?_) (fun p4 W4 T hF hK=>?_)
 ·refine ok_L (by kernel_rfl) (by kernel_rfl) (by kernel_rfl) ?_
  refine ok_c (fun W cx=>as_v (rnone_f _ g s x ha)) (by kernel_rfl) ?_
  refine ok_v (by kernel_rfl) ?_
  iterate 2 refine ok_K (by kernel_rfl) ?_
  refine ok_v (by kernel_rfl) ?_
  exact ok_nil
 replace hS:=SymF.fb hS hF [0,1,2] [⟨(p1 0).N,#[.bool g,.string s,.int .i64 x],23,true⟩,⟨(p1 1).N,#[.bool g2,.string s2,.int .i64 x2],23,true⟩,⟨(p1 2).N,#[.bool false,.string ⟨#[]⟩,.int .i64 0],23,true⟩] (by kernel_rfl) (by kernel_rfl)
 replace hG:=hF.gx
 clear hF
 have z4:=hS.fr.size
 refine wp_cond_false (hK.ev 28 (by kernel_rfl) _ (by kernel_rfl)) ?_
 refine wp_skip ?_
 refine then_n ?_
 refine wp_seq ?_
 refine wp_symQ hS hG hK (fun p5=>[.l 36 (.agg #[.bool g,.string s,.int .i64 x]) 0 0,.c (some 37) (cV (.bool false))]) (fun p5=>[(2,.pointer (some ⟨(p1 0).N,0,none⟩)),(3,.pointer (some ⟨(p1 1).N,0,none⟩)),(4,.pointer (some ⟨(p1 2).N,0,none⟩)),(5,.int .i64 0),(6,.int .i64 0),(20,.bool false),(28,.bool false),(37,.bool false)]) (by kernel_rfl) (fun _ _=>by kernel_rfl) (fun _=>by kernel_rfl) (fun _=>by kernel_rfl) (fun p5=>?_) (fun p5 W5 T hF hK=>?_)
 ·refine ok_L (by kernel_rfl) (by kernel_rfl) (by kernel_rfl) ?_
  refine ok_c (fun W cx=>as_v (rnone_f _ g s x ha)) (by kernel_rfl) ?_
  exact ok_nil
 replace hS:=SymF.fb hS hF [0,1,2] [⟨(p1 0).N,#[.bool g,.string s,.int .i64 x],23,true⟩,⟨(p1 1).N,#[.bool g2,.string s2,.int .i64 x2],23,true⟩,⟨(p1 2).N,#[.bool false,.string ⟨#[]⟩,.int .i64 0],23,true⟩] (by kernel_rfl) (by kernel_rfl)
 replace hG:=hF.gx
 clear hF
 have z5:=hS.fr.size
 refine wp_cond_false (hK.ev 37 (by kernel_rfl) _ (by kernel_rfl)) ?_
 refine wp_skip ?_
 refine then_n ?_
 refine wp_seq ?_
 refine wp_symQ hS hG hK (fun p6=>[.l 39 (.agg #[.bool g2,.string s2,.int .i64 x2]) 1 0,.c (some 40) (cV (.bool false))]) (fun p6=>[(2,.pointer (some ⟨(p1 0).N,0,none⟩)),(3,.pointer (some ⟨(p1 1).N,0,none⟩)),(4,.pointer (some ⟨(p1 2).N,0,none⟩)),(5,.int .i64 0),(6,.int .i64 0),(20,.bool false),(28,.bool false),(37,.bool false),(40,.bool false)]) (by kernel_rfl) (fun _ _=>by kernel_rfl) (fun _=>by kernel_rfl) (fun _=>by kernel_rfl) (fun p6=>?_) (fun p6 W6 T hF hK=>?_)
 ·refine ok_L (by kernel_rfl) (by kernel_rfl) (by kernel_rfl) ?_
  refine ok_c (fun W cx=>as_v (rnone_f _ g2 s2 x2 hb)) (by kernel_rfl) ?_
  exact ok_nil
 replace hS:=SymF.fb hS hF [0,1,2] [⟨(p1 0).N,#[.bool g,.string s,.int .i64 x],23,true⟩,⟨(p1 1).N,#[.bool g2,.string s2,.int .i64 x2],23,true⟩,⟨(p1 2).N,#[.bool false,.string ⟨#[]⟩,.int .i64 0],23,true⟩] (by kernel_rfl) (by kernel_rfl)
 replace hG:=hF.gx
 clear hF
 have z6:=hS.fr.size
 refine wp_cond_false (hK.ev 40 (by kernel_rfl) _ (by kernel_rfl)) ?_
 refine wp_skip ?_
 refine then_n ?_
 refine wp_symQ hS hG hK (fun p7=>[.v 42 (.pointer (some ⟨(p1 0).N,2,none⟩)),.l 43 (.int .i64 x) 0 2,.v 44 (.pointer (some ⟨(p1 1).N,2,none⟩)),.l 45 (.int .i64 x2) 1 2,.v 46 (.int .i64 ex),.v 7 (.int .i64 ex)]) (fun p7=>[(2,.pointer (some ⟨(p1 0).N,0,none⟩)),(3,.pointer (some ⟨(p1 1).N,0,none⟩)),(4,.pointer (some ⟨(p1 2).N,0,none⟩)),(5,.int .i64 0),(6,.int .i64 0),(7,.int .i64 ex),(20,.bool false),(28,.bool false),(37,.bool false),(40,.bool false)]) (by kernel_rfl) (fun _ _=>by kernel_rfl) (fun _=>by kernel_rfl) (fun _=>by kernel_rfl) (fun p7=>?_) (fun p7 W7 T hF hK=>?_)
 ·refine ok_v (by kernel_rfl) ?_
  refine ok_L (by kernel_rfl) (by kernel_rfl) (by kernel_rfl) ?_
  refine ok_v (by kernel_rfl) ?_
  refine ok_L (by kernel_rfl) (by kernel_rfl) (by kernel_rfl) ?_
  refine ok_vi ((imin _ _).trans hmin) (by kernel_rfl) ?_
  refine ok_v (by kernel_rfl) ?_
  exact ok_nil
 replace hS:=SymF.fb hS hF [0,1,2] [⟨(p1 0).N,#[.bool g,.string s,.int .i64 x],23,true⟩,⟨(p1 1).N,#[.bool g2,.string s2,.int .i64 x2],23,true⟩,⟨(p1 2).N,#[.bool false,.string ⟨#[]⟩,.int .i64 0],23,true⟩] (by kernel_rfl) (by kernel_rfl)
 replace hG:=hF.gx
 clear hF
 have z7:=hS.fr.size
 refine wp_seq ?_
 refine wp_symQ hS hG hK (fun p8=>[.v 47 (.pointer (some ⟨(p1 0).N,1,none⟩)),.l 48 (.string s) 0 1,.v 49 (.int .i64 (s.size:Int)),.v 50 (.pointer (some ⟨(p1 0).N,2,none⟩)),.l 51 (.int .i64 x) 0 2,.v 52 (.int .i64 ((s.size:Int)+x)),.v 53 (.int .i64 ex),.v 54 (.int .i64 ((s.size:Int)+x - ex)),.v 55 (.bool false),.v 56 (.bool false),.v 57 (.pointer (some ⟨(p1 1).N,1,none⟩)),.l 58 (.string s2) 1 1,.v 59 (.int .i64 (s2.size:Int)),.v 60 (.pointer (some ⟨(p1 1).N,2,none⟩)),.l 61 (.int .i64 x2) 1 2,.v 62 (.int .i64 ((s2.size:Int)+x2)),.v 63 (.int .i64 ex),.v 64 (.int .i64 ((s2.size:Int)+x2 - ex)),.v 65 (.bool false),.v 66 (.bool false)]) (fun p8=>[(2,.pointer (some ⟨(p1 0).N,0,none⟩)),(3,.pointer (some ⟨(p1 1).N,0,none⟩)),(4,.pointer (some ⟨(p1 2).N,0,none⟩)),(5,.int .i64 0),(6,.int .i64 0),(7,.int .i64 ex),(20,.bool false),(28,.bool false),(37,.bool false),(40,.bool false),(66,.bool false)]) (by kernel_rfl) (fun _ _=>by kernel_rfl) (fun _=>by kernel_rfl) (fun _=>by kernel_rfl) (fun p8=>?_) (fun p8 W8 T hF hK=>?_)
 ·refine ok_v (by kernel_rfl) ?_
  refine ok_L (by kernel_rfl) (by kernel_rfl) (by kernel_rfl) ?_
  iterate 2 refine ok_v (by kernel_rfl) ?_
  refine ok_L (by kernel_rfl) (by kernel_rfl) (by kernel_rfl) ?_
  refine ok_vi (wr64 (x:=(s.size:Int)+x) (by omega) (by omega)) (by kernel_rfl) ?_
  refine ok_v (by kernel_rfl) ?_
  refine ok_vi (wr64 (x:=(s.size:Int)+x - ex) (by omega) (by omega)) (by kernel_rfl) ?_
  refine ok_vb (decide_eq_false (show ¬ ((s.size:Int)+x - ex) > 65536 by omega)) (by kernel_rfl) ?_
  iterate 2 refine ok_v (by kernel_rfl) ?_
  refine ok_L (by kernel_rfl) (by kernel_rfl) (by kernel_rfl) ?_
  iterate 2 refine ok_v (by kernel_rfl) ?_
  refine ok_L (by kernel_rfl) (by kernel_rfl) (by kernel_rfl) ?_
  refine ok_vi (wr64 (x:=(s2.size:Int)+x2) (by omega) (by omega)) (by kernel_rfl) ?_
  refine ok_v (by kernel_rfl) ?_
  refine ok_vi (wr64 (x:=(s2.size:Int)+x2 - ex) (by omega) (by omega)) (by kernel_rfl) ?_
  refine ok_vb (decide_eq_false (show ¬ ((s2.size:Int)+x2 - ex) > 65536 by omega)) (by kernel_rfl) ?_
  refine ok_v (by kernel_rfl) ?_
  exact ok_nil
 replace hS:=SymF.fb hS hF [0,1,2] [⟨(p1 0).N,#[.bool g,.string s,.int .i64 x],23,true⟩,⟨(p1 1).N,#[.bool g2,.string s2,.int .i64 x2],23,true⟩,⟨(p1 2).N,#[.bool false,.string ⟨#[]⟩,.int .i64 0],23,true⟩] (by kernel_rfl) (by kernel_rfl)
 replace hG:=hF.gx
 clear hF
 have z8:=hS.fr.size
 refine wp_cond_false (hK.ev 66 (by kernel_rfl) _ (by kernel_rfl)) ?_
 refine wp_skip ?_
 refine then_n ?_
 refine wp_symQ hS hG hK (fun p9=>[.v 68 (.pointer (some ⟨(p1 0).N,1,none⟩)),.l 69 (.string s) 0 1,.v 70 (.pointer (some ⟨(p1 0).N,2,none⟩)),.l 71 (.int .i64 x) 0 2,.v 72 (.int .i64 ex),.v 73 (.int .i64 (o1:Int)),.c (some 74) (cV (.string (noS o1))),.v 75 (.string (s ++ noS o1)),.c (some 76) (cN W8.heap.size M),.v 77 (.pointer (some ⟨(p1 1).N,1,none⟩)),.l 78 (.string s2) 1 1,.v 79 (.pointer (some ⟨(p1 1).N,2,none⟩)),.l 80 (.int .i64 x2) 1 2,.v 81 (.int .i64 ex),.v 82 (.int .i64 (o2:Int)),.c (some 83) (cV (.string (noS o2))),.v 84 (.string (s2 ++ noS o2)),.c (some 85) (cN W8.heap.size N),.n 8 #[.slice none 0 0] 60,.n 9 #[.slice none 0 0] 60,.p 1018 0 [.slice (p9 8).A (p9 8).N (p9 8).C],.p 1019 0 [.slice (p9 17).A (p9 17).N (p9 17).C]]) (fun p9=>[(2,.pointer (some ⟨(p1 0).N,0,none⟩)),(3,.pointer (some ⟨(p1 1).N,0,none⟩)),(4,.pointer (some ⟨(p1 2).N,0,none⟩)),(5,.int .i64 0),(6,.int .i64 0),(7,.int .i64 ex),(8,.pointer (some ⟨(p9 18).N,0,none⟩)),(9,.pointer (some ⟨(p9 19).N,0,none⟩)),(20,.bool false),(28,.bool false),(37,.bool false),(40,.bool false),(66,.bool false)]) (by kernel_rfl) (fun _ _=>by kernel_rfl) (fun _=>by kernel_rfl) (fun _=>by kernel_rfl) (fun p9=>?_) (fun p9 W9 T hF hK=>?_)
 ·refine ok_v (by kernel_rfl) ?_
  refine ok_L (by kernel_rfl) (by kernel_rfl) (by kernel_rfl) ?_
  refine ok_v (by kernel_rfl) ?_
  refine ok_L (by kernel_rfl) (by kernel_rfl) (by kernel_rfl) ?_
  refine ok_v (by kernel_rfl) ?_
  refine ok_vi ((wr64 (x:=x - ex) (by omega) (by omega)).trans hz1) (by kernel_rfl) ?_
  refine ok_c (fun W cx=>as_v (rnoughts_any o1 (by omega) _)) (by kernel_rfl) ?_
  refine ok_vr (hcat1) (by kernel_rfl) ?_
  refine ok_c (fun W cx=>as_n cx.hb (unhide H1 _)) (by kernel_rfl) ?_
  refine ok_v (by kernel_rfl) ?_
  refine ok_L (by kernel_rfl) (by kernel_rfl) (by kernel_rfl) ?_
  refine ok_v (by kernel_rfl) ?_
  refine ok_L (by kernel_rfl) (by kernel_rfl) (by kernel_rfl) ?_
  refine ok_v (by kernel_rfl) ?_
  refine ok_vi ((wr64 (x:=x2 - ex) (by omega) (by omega)).trans hz2) (by kernel_rfl) ?_
  refine ok_c (fun W cx=>as_v (rnoughts_any o2 (by omega) _)) (by kernel_rfl) ?_
  refine ok_vr (hcat2) (by kernel_rfl) ?_
  refine ok_c (fun W cx=>as_n cx.hb (unhide H2 _)) (by kernel_rfl) ?_
  iterate 2 refine ok_n (fun _=>by kernel_rfl) ?_
  iterate 2 refine ok_P (by kernel_rfl) (by kernel_rfl) (by kernel_rfl) ?_
  exact ok_nil
 replace hS:=SymF.fb hS hF [0,1,2,1018,1019] [⟨(p1 0).N,#[.bool g,.string s,.int .i64 x],23,true⟩,⟨(p1 1).N,#[.bool g2,.string s2,.int .i64 x2],23,true⟩,⟨(p1 2).N,#[.bool false,.string ⟨#[]⟩,.int .i64 0],23,true⟩,⟨(p9 18).N,#[.slice (p9 8).A (p9 8).N (p9 8).C],60,true⟩,⟨(p9 19).N,#[.slice (p9 17).A (p9 17).N (p9 17).C],60,true⟩] (by kernel_rfl) (by kernel_rfl)
 replace hG:GsAt (gM W8.heap.size (p9 8).A (p9 8).N (p9 8).C M :: gM W8.heap.size (p9 17).A (p9 17).N (p9 17).C N :: _) W9:=⟨hF.fx 8,hF.fx 17,hF.gx⟩
 clear hF
 have z9:=hS.fr.size
 refine wp_symQ hS hG hK (fun p10=>[.v 86 (.pointer (some ⟨(p1 0).N,0,none⟩)),.l 87 (.bool g) 0 0,.v 10 (.bool g)]) (fun p10=>[(2,.pointer (some ⟨(p1 0).N,0,none⟩)),(3,.pointer (some ⟨(p1 1).N,0,none⟩)),(4,.pointer (some ⟨(p1 2).N,0,none⟩)),(5,.int .i64 0),(6,.int .i64 0),(7,.int .i64 ex),(8,.pointer (some ⟨(p9 18).N,0,none⟩)),(9,.pointer (some ⟨(p9 19).N,0,none⟩)),(10,.bool g),(20,.bool false),(28,.bool false),(37,.bool false),(40,.bool false),(66,.bool false)]) (by kernel_rfl) (fun _ _=>by kernel_rfl) (fun _=>by kernel_rfl) (fun _=>by kernel_rfl) (fun p10=>?_) (fun p10 W10 T hF hK=>?_)
 ·refine ok_v (by kernel_rfl) ?_
  refine ok_L (by kernel_rfl) (by kernel_rfl) (by kernel_rfl) ?_
  refine ok_v (by kernel_rfl) ?_
  exact ok_nil
 replace hS:=SymF.fb hS hF [0,1,2,3,4] [⟨(p1 0).N,#[.bool g,.string s,.int .i64 x],23,true⟩,⟨(p1 1).N,#[.bool g2,.string s2,.int .i64 x2],23,true⟩,⟨(p1 2).N,#[.bool false,.string ⟨#[]⟩,.int .i64 0],23,true⟩,⟨(p9 18).N,#[.slice (p9 8).A (p9 8).N (p9 8).C],60,true⟩,⟨(p9 19).N,#[.slice (p9 17).A (p9 17).N (p9 17).C],60,true⟩] (by kernel_rfl) (by kernel_rfl)
 replace hG:=hF.gx
 clear hF
 have z10:=hS.fr.size
 refine wp_symQ hS hG hK (fun p11=>[.n 11 #[.slice none 0 0] 60]) (fun p11=>[(2,.pointer (some ⟨(p1 0).N,0,none⟩)),(3,.pointer (some ⟨(p1 1).N,0,none⟩)),(4,.pointer (some ⟨(p1 2).N,0,none⟩)),(5,.int .i64 0),(6,.int .i64 0),(7,.int .i64 ex),(8,.pointer (some ⟨(p9 18).N,0,none⟩)),(9,.pointer (some ⟨(p9 19).N,0,none⟩)),(10,.bool g),(11,.pointer (some ⟨(p11 0).N,0,none⟩)),(20,.bool false),(28,.bool false),(37,.bool false),(40,.bool false),(66,.bool false)]) (by kernel_rfl) (fun _ _=>by kernel_rfl) (fun _=>by kernel_rfl) (fun _=>by kernel_rfl) (fun p11=>?_) (fun p11 W11 T hF hK=>?_)
 ·refine ok_n (fun _=>by kernel_rfl) ?_
  exact ok_nil
 replace hS:=SymF.fb hS hF [0,1,2,3,4,1000] [⟨(p1 0).N,#[.bool g,.string s,.int .i64 x],23,true⟩,⟨(p1 1).N,#[.bool g2,.string s2,.int .i64 x2],23,true⟩,⟨(p1 2).N,#[.bool false,.string ⟨#[]⟩,.int .i64 0],23,true⟩,⟨(p9 18).N,#[.slice (p9 8).A (p9 8).N (p9 8).C],60,true⟩,⟨(p9 19).N,#[.slice (p9 17).A (p9 17).N (p9 17).C],60,true⟩,⟨(p11 0).N,#[.slice none 0 0],60,true⟩] (by kernel_rfl) (by kernel_rfl)
 replace hG:=hF.gx
 clear hF
 have z11:=hS.fr.size
 refine wp_symQ hS hG hK (fun p12=>[.l 89 (.agg #[.slice (p9 8).A (p9 8).N (p9 8).C]) 3 0,.l 90 (.agg #[.slice (p9 17).A (p9 17).N (p9 17).C]) 4 0,.c (some 91) (cV (.tuple #[.int .i64 0,.int .i64 0])),.v 88 (.tuple #[.int .i64 0,.int .i64 0]),.v 92 (.int .i64 0),.v 93 (.int .i64 0),.v 12 (.int .i64 0),.v 13 (.int .i64 0)]) (fun p12=>[(2,.pointer (some ⟨(p1 0).N,0,none⟩)),(3,.pointer (some ⟨(p1 1).N,0,none⟩)),(4,.pointer (some ⟨(p1 2).N,0,none⟩)),(5,.int .i64 0),(6,.int .i64 0),(7,.int .i64 ex),(8,.pointer (some ⟨(p9 18).N,0,none⟩)),(9,.pointer (some ⟨(p9 19).N,0,none⟩)),(10,.bool g),(11,.pointer (some ⟨(p11 0).N,0,none⟩)),(12,.int .i64 0),(20,.bool false),(28,.bool false),(37,.bool false),(40,.bool false),(66,.bool false)]) (by kernel_rfl) (fun _ _=>by kernel_rfl) (fun _=>by kernel_rfl) (fun _=>by kernel_rfl) (fun p12=>?_) (fun p12 W12 T hF hK=>?_)
 ·iterate 2 refine ok_L (by kernel_rfl) (by kernel_rfl) (by kernel_rfl) ?_
  refine ok_c (fun W cx=>as_v (unhide HK _ _ _ (p9 8).C _ _ (p9 17).C (Mine.num cx.G.1) (Mine.num cx.G.2.1))) (by kernel_rfl) ?_
  iterate 5 refine ok_v (by kernel_rfl) ?_
  exact ok_nil
 replace hS:=SymF.fb hS hF [0,1,2,3,4,5] [⟨(p1 0).N,#[.bool g,.string s,.int .i64 x],23,true⟩,⟨(p1 1).N,#[.bool g2,.string s2,.int .i64 x2],23,true⟩,⟨(p1 2).N,#[.bool false,.string ⟨#[]⟩,.int .i64 0],23,true⟩,⟨(p9 18).N,#[.slice (p9 8).A (p9 8).N (p9 8).C],60,true⟩,⟨(p9 19).N,#[.slice (p9 17).A (p9 17).N (p9 17).C],60,true⟩,⟨(p11 0).N,#[.slice none 0 0],60,true⟩] (by kernel_rfl) (by kernel_rfl)
 replace hG:=hF.gx
 clear hF
 have z12:=hS.fr.size
 refine wp_seq ?_
 refine wp_block ?_
 refine wp_symQ hS hG hK (fun p13=>[.v 104 (.pointer (some ⟨(p1 0).N,0,none⟩)),.l 105 (.bool g) 0 0,.v 106 (.pointer (some ⟨(p1 1).N,0,none⟩)),.l 107 (.bool g2) 1 0,.v 108 (.bool false),.v 103 (.bool false)]) (fun p13=>[(2,.pointer (some ⟨(p1 0).N,0,none⟩)),(3,.pointer (some ⟨(p1 1).N,0,none⟩)),(4,.pointer (some ⟨(p1 2).N,0,none⟩)),(5,.int .i64 0),(6,.int .i64 0),(7,.int .i64 ex),(8,.pointer (some ⟨(p9 18).N,0,none⟩)),(9,.pointer (some ⟨(p9 19).N,0,none⟩)),(10,.bool g),(11,.pointer (some ⟨(p11 0).N,0,none⟩)),(12,.int .i64 0),(20,.bool false),(28,.bool false),(37,.bool false),(40,.bool false),(66,.bool false),(103,.bool false)]) (by kernel_rfl) (fun _ _=>by kernel_rfl) (fun _=>by kernel_rfl) (fun _=>by kernel_rfl) (fun p13=>?_) (fun p13 W13 T hF hK=>?_)
 ·refine ok_v (by kernel_rfl) ?_
  refine ok_L (by kernel_rfl) (by kernel_rfl) (by kernel_rfl) ?_
  refine ok_v (by kernel_rfl) ?_
  refine ok_L (by kernel_rfl) (by kernel_rfl) (by kernel_rfl) ?_
  refine ok_vb (hg) (by kernel_rfl) ?_
  refine ok_v (by kernel_rfl) ?_
  exact ok_nil
 replace hS:=SymF.fb hS hF [0,1,2,3,4,5] [⟨(p1 0).N,#[.bool g,.string s,.int .i64 x],23,true⟩,⟨(p1 1).N,#[.bool g2,.string s2,.int .i64 x2],23,true⟩,⟨(p1 2).N,#[.bool false,.string ⟨#[]⟩,.int .i64 0],23,true⟩,⟨(p9 18).N,#[.slice (p9 8).A (p9 8).N (p9 8).C],60,true⟩,⟨(p9 19).N,#[.slice (p9 17).A (p9 17).N (p9 17).C],60,true⟩,⟨(p11 0).N,#[.slice none 0 0],60,true⟩] (by kernel_rfl) (by kernel_rfl)
 replace hG:=hF.gx
 clear hF
 have z13:=hS.fr.size
 refine wp_cond_false (hK.ev 103 (by kernel_rfl) _ (by kernel_rfl)) ?_
 refine wp_symQ hS hG hK (fun p14=>[.v 116 (.int .i64 0),.v 117 (.bool true),.v 115 (.bool true)]) (fun p14=>[(2,.pointer (some ⟨(p1 0).N,0,none⟩)),(3,.pointer (some ⟨(p1 1).N,0,none⟩)),(4,.pointer (some ⟨(p1 2).N,0,none⟩)),(5,.int .i64 0),(6,.int .i64 0),(7,.int .i64 ex),(8,.pointer (some ⟨(p9 18).N,0,none⟩)),(9,.pointer (some ⟨(p9 19).N,0,none⟩)),(10,.bool g),(11,.pointer (some ⟨(p11 0).N,0,none⟩)),(12,.int .i64 0),(20,.bool false),(28,.bool false),(37,.bool false),(40,.bool false),(66,.bool false),(103,.bool false),(115,.bool true)]) (by kernel_rfl) (fun _ _=>by kernel_rfl) (fun _=>by kernel_rfl) (fun _=>by kernel_rfl) (fun p14=>?_) (fun p14 W14 T hF hK=>?_)
 ·iterate 3 refine ok_v (by kernel_rfl) ?_
  exact ok_nil
 replace hS:=SymF.fb hS hF [0,1,2,3,4,5] [⟨(p1 0).N,#[.bool g,.string s,.int .i64 x],23,true⟩,⟨(p1 1).N,#[.bool g2,.string s2,.int .i64 x2],23,true⟩,⟨(p1 2).N,#[.bool false,.string ⟨#[]⟩,.int .i64 0],23,true⟩,⟨(p9 18).N,#[.slice (p9 8).A (p9 8).N (p9 8).C],60,true⟩,⟨(p9 19).N,#[.slice (p9 17).A (p9 17).N (p9 17).C],60,true⟩,⟨(p11 0).N,#[.slice none 0 0],60,true⟩] (by kernel_rfl) (by kernel_rfl)
 replace hG:=hF.gx
 clear hF
 have z14:=hS.fr.size
 refine wp_cond_true (hK.ev 115 (by kernel_rfl) _ (by kernel_rfl)) ?_
 refine wp_symG hS hG hK (fun p15=>[.v 10 (.bool false)]) (fun p15=>[(2,.pointer (some ⟨(p1 0).N,0,none⟩)),(3,.pointer (some ⟨(p1 1).N,0,none⟩)),(4,.pointer (some ⟨(p1 2).N,0,none⟩)),(5,.int .i64 0),(6,.int .i64 0),(7,.int .i64 ex),(8,.pointer (some ⟨(p9 18).N,0,none⟩)),(9,.pointer (some ⟨(p9 19).N,0,none⟩)),(10,.bool false),(11,.pointer (some ⟨(p11 0).N,0,none⟩)),(12,.int .i64 0),(20,.bool false),(28,.bool false),(37,.bool false),(40,.bool false),(66,.bool false),(103,.bool false),(115,.bool true)]) (by kernel_rfl) (fun _ _=>by kernel_rfl) (fun _=>by kernel_rfl) (fun _=>by kernel_rfl) (fun p15=>?_) (fun p15 W15 T hF hK=>?_)
 ·refine ok_v (by kernel_rfl) ?_
  exact ok_nil
 replace hS:=SymF.fb hS hF [0,1,2,3,4,5] [⟨(p1 0).N,#[.bool g,.string s,.int .i64 x],23,true⟩,⟨(p1 1).N,#[.bool g2,.string s2,.int .i64 x2],23,true⟩,⟨(p1 2).N,#[.bool false,.string ⟨#[]⟩,.int .i64 0],23,true⟩,⟨(p9 18).N,#[.slice (p9 8).A (p9 8).N (p9 8).C],60,true⟩,⟨(p9 19).N,#[.slice (p9 17).A (p9 17).N (p9 17).C],60,true⟩,⟨(p11 0).N,#[.slice none 0 0],60,true⟩] (by kernel_rfl) (by kernel_rfl)
 replace hG:=hF.gx
 clear hF
 have z15:=hS.fr.size
 refine inb_n ?_
 refine then_n ?_
 refine wp_symQ hS hG hK (fun p16=>[.l 129 (.agg #[.slice none 0 0]) 5 0,.c (some 130) (cV (.tuple #[.string t,.int .i64 0])),.v 128 (.tuple #[.string t,.int .i64 0]),.v 131 (.string t),.v 132 (.int .i64 0),.v 14 (.string t),.v 15 (.int .i64 0)]) (fun p16=>[(2,.pointer (some ⟨(p1 0).N,0,none⟩)),(3,.pointer (some ⟨(p1 1).N,0,none⟩)),(4,.pointer (some ⟨(p1 2).N,0,none⟩)),(5,.int .i64 0),(6,.int .i64 0),(7,.int .i64 ex),(8,.pointer (some ⟨(p9 18).N,0,none⟩)),(9,.pointer (some ⟨(p9 19).N,0,none⟩)),(10,.bool false),(11,.pointer (some ⟨(p11 0).N,0,none⟩)),(12,.int .i64 0),(14,.string t),(20,.bool false),(28,.bool false),(37,.bool false),(40,.bool false),(66,.bool false),(103,.bool false),(115,.bool true)]) (by kernel_rfl) (fun _ _=>by kernel_rfl) (fun _=>by kernel_rfl) (fun _=>by kernel_rfl) (fun p16=>?_) (fun p16 W16 T hF hK=>?_)
 ·refine ok_L (by kernel_rfl) (by kernel_rfl) (by kernel_rfl) ?_
  refine ok_c (fun W cx=>as_v (unhide HT _ _ _ 0 (Num.nil _))) (by kernel_rfl) ?_
  iterate 5 refine ok_v (by kernel_rfl) ?_
  exact ok_nil
 replace hS:=SymF.fb hS hF [0,1,2,3,4,5] [⟨(p1 0).N,#[.bool g,.string s,.int .i64 x],23,true⟩,⟨(p1 1).N,#[.bool g2,.string s2,.int .i64 x2],23,true⟩,⟨(p1 2).N,#[.bool false,.string ⟨#[]⟩,.int .i64 0],23,true⟩,⟨(p9 18).N,#[.slice (p9 8).A (p9 8).N (p9 8).C],60,true⟩,⟨(p9 19).N,#[.slice (p9 17).A (p9 17).N (p9 17).C],60,true⟩,⟨(p11 0).N,#[.slice none 0 0],60,true⟩] (by kernel_rfl) (by kernel_rfl)
 replace hG:=hF.gx
 clear hF
 have z16:=hS.fr.size
 refine wp_symQ hS hG hK (fun p17=>[.v 133 (.bool false),.v 134 (.string t),.v 135 (.int .i64 ex),.c (some 136) (cV (.tuple #[.agg #[.bool g3,.string s3,.int .i64 x3],.int .i64 e3])),.v 137 (.agg #[.bool g3,.string s3,.int .i64 x3]),.v 138 (.int .i64 e3),.p 2 0 [.bool g3,.string s3,.int .i64 x3],.v 5 (.int .i64 e3)]) (fun p17=>[(2,.pointer (some ⟨(p1 0).N,0,none⟩)),(3,.pointer (some ⟨(p1 1).N,0,none⟩)),(4,.pointer (some ⟨(p1 2).N,0,none⟩)),(5,.int .i64 e3),(6,.int .i64 0),(8,.pointer (some ⟨(p9 18).N,0,none⟩)),(9,.pointer (some ⟨(p9 19).N,0,none⟩)),(11,.pointer (some ⟨(p11 0).N,0,none⟩)),(12,.int .i64 0),(20,.bool false),(28,.bool false),(37,.bool false),(40,.bool false),(66,.bool false),(103,.bool false),(115,.bool true)]) (by kernel_rfl) (fun _ _=>by kernel_rfl) (fun _=>by kernel_rfl) (fun _=>by kernel_rfl) (fun p17=>?_) (fun p17 W17 T hF hK=>?_)
 ·iterate 3 refine ok_v (by kernel_rfl) ?_
  refine ok_c (fun W cx=>as_v (unhide HM _)) (by kernel_rfl) ?_
  iterate 2 refine ok_v (by kernel_rfl) ?_
  refine ok_P (by kernel_rfl) (by kernel_rfl) (by kernel_rfl) ?_
  refine ok_v (by kernel_rfl) ?_
  exact ok_nil
 replace hS:=SymF.fb hS hF [0,1,2,3,4,5] [⟨(p1 0).N,#[.bool g,.string s,.int .i64 x],23,true⟩,⟨(p1 1).N,#[.bool g2,.string s2,.int .i64 x2],23,true⟩,⟨(p1 2).N,#[.bool g3,.string s3,.int .i64 x3],23,true⟩,⟨(p9 18).N,#[.slice (p9 8).A (p9 8).N (p9 8).C],60,true⟩,⟨(p9 19).N,#[.slice (p9 17).A (p9 17).N (p9 17).C],60,true⟩,⟨(p11 0).N,#[.slice none 0 0],60,true⟩] (by kernel_rfl) (by kernel_rfl)
 replace hG:=hF.gx
 clear hF
 have z17:=hS.fr.size
 refine wp_ret ?_
 exact sym_end hS hK (.tuple #[.agg #[.bool g3,.string s3,.int .i64 x3],.int .i64 e3]) [(2,0,3)] [.bool g3,.string s3,.int .i64 x3] (by kernel_rfl) (by kernel_rfl) ⟨rfl,hS.fr⟩
theorem radd_gt (w:World) (g:Bool) (s:ByteArray) (x:Int) (g2:Bool) (s2:ByteArray) (x2:Int) (ex:Int) (o1 o2 M N:Nat) (t:ByteArray) (g3:Bool) (s3:ByteArray) (x3 e3:Int) (ha:s.size≠0) (hb:s2.size≠0) (hm:s.size≤65536) (hm2:s2.size≤65536) (hx0:-1073741824≤x) (hx1:x≤1073741824) (hy0:-1073741824≤x2) (hy1:x2≤1073741824) (hmin:min x x2 = ex) (hz1:x - ex = (o1:Int)) (hz2:x2 - ex = (o2:Int)) (hn1:s.size+o1≤65536) (hn2:s2.size+o2≤65536) (hg:(g == g2) = false) (HC:Hid (∀ W:World,Calls Try.prog 47 #[.agg #[.bool g,.string s,.int .i64 x],.agg #[.bool g2,.string s2,.int .i64 x2]] W fun e W'=>e = .returned (.int .i64 0)∧Below W.heap.size W W')) (H1:Hid (∀ W:World,Calls Try.prog 51 #[.string (s ++ noS o1)] W fun en W'=>(∃ a n c,en = .returned (.agg #[.slice a n c])∧Mine W' W.heap.size a n c M)∧Below W.heap.size W W')) (H2:Hid (∀ W:World,Calls Try.prog 51 #[.string (s2 ++ noS o2)] W fun en W'=>(∃ a n c,en = .returned (.agg #[.slice a n c])∧Mine W' W.heap.size a n c N)∧Below W.heap.size W W')) (HK:Hid (∀ (W:World) (a:Option Addr) (n c:Nat) (a':Option Addr) (n' c':Nat),Num W a n M→Num W a' n' N→Calls Try.prog 53 #[.agg #[.slice a n c],.agg #[.slice a' n' c']] W fun en W'=>en = .returned (.tuple #[.int .i64 1,.int .i64 0])∧Below W.heap.size W W')) (HA:Hid (∀ (W:World) (a:Option Addr) (n c:Nat) (a':Option Addr) (n' c':Nat),Num W a n M→Num W a' n' N→Calls Try.prog 55 #[.agg #[.slice a n c],.agg #[.slice a' n' c']] W fun en W'=>(∃ a n c,en = .returned (.tuple #[.agg #[.slice a n c],.bool true,.int .i64 0])∧Mine W' W.heap.size a n c (M - N))∧Below W.heap.size W W')) (HT:Hid (∀ (W:World) (a:Option Addr) (n c:Nat),Num W a n (M - N)→Calls Try.prog 56 #[.agg #[.slice a n c]] W fun en W'=>en = .returned (.tuple #[.string t,.int .i64 0])∧Below W.heap.size W W')) (HM:Hid (∀ W:World,Calls Try.prog 17 #[.bool g,.string t,.int .i64 ex] W fun e W'=>e = .returned (.tuple #[.agg #[.bool g3,.string s3,.int .i64 x3],.int .i64 e3])∧Below W.heap.size W W')) :
  Calls Try.prog 20 #[.agg #[.bool g,.string s,.int .i64 x],.agg #[.bool g2,.string s2,.int .i64 x2]] w fun en w'=>en = .returned (.tuple #[.agg #[.bool g3,.string s3,.int .i64 x3],.int .i64 e3])∧Below w.heap.size w w':=by
 have hcat1:script Try.prog 0 (Op.stringOp .add s (noS o1)) [] = some (.string (s ++ noS o1),[]):=script_cat (by rw [size_noS]; omega)
 have hcat2:script Try.prog 0 (Op.stringOp .add s2 (noS o2)) [] = some (.string (s2 ++ noS o2),[]):=script_cat (by rw [size_noS]; omega)
 refine calls_sym Try.func20 rfl (by kernel_rfl) fun T hK=>?_
 replace hK:Kn T _ [(0,.agg #[.bool g,.string s,.int .i64 x]),(1,.agg #[.bool g2,.string s2,.int .i64 x2])]:=hK
 have hS:=Fb.begin w
 have hG:GsAt [] w:=trivial
 refine wp_symQ hS hG hK (fun p1=>[.n 2 #[.bool g,.string s,.int .i64 x] 23,.n 3 #[.bool g2,.string s2,.int .i64 x2] 23,.n 4 #[.bool false,.string ⟨#[]⟩,.int .i64 0] 23,.v 5 (.int .i64 0)]) (fun p1=>[(2,.pointer (some ⟨(p1 0).N,0,none⟩)),(3,.pointer (some ⟨(p1 1).N,0,none⟩)),(4,.pointer (some ⟨(p1 2).N,0,none⟩)),(5,.int .i64 0)]) (by kernel_rfl) (fun _ _=>by kernel_rfl) (fun _=>by kernel_rfl) (fun _=>by kernel_rfl) (fun p1=>?_) (fun p1 W1 T hF hK=>?_)
 ·iterate 3 refine ok_n (fun _=>by kernel_rfl) ?_
  refine ok_v (by kernel_rfl) ?_
  exact ok_nil
 replace hS:=SymF.fb hS hF [1000,1001,1002] [⟨(p1 0).N,#[.bool g,.string s,.int .i64 x],23,true⟩,⟨(p1 1).N,#[.bool g2,.string s2,.int .i64 x2],23,true⟩,⟨(p1 2).N,#[.bool false,.string ⟨#[]⟩,.int .i64 0],23,true⟩] (by kernel_rfl) (by kernel_rfl)
 replace hG:=hF.gx
 clear hF
 have z1:=hS.fr.size
 refine wp_symQ hS hG hK (fun p2=>[.l 16 (.agg #[.bool g,.string s,.int .i64 x]) 0 0,.l 17 (.agg #[.bool g2,.string s2,.int .i64 x2]) 1 0,.c (some 18) (cV (.int .i64 0)),.v 6 (.int .i64 0)]) (fun p2=>[(2,.pointer (some ⟨(p1 0).N,0,none⟩)),(3,.pointer (some ⟨(p1 1).N,0,none⟩)),(4,.pointer (some ⟨(p1 2).N,0,none⟩)),(5,.int .i64 0),(6,.int .i64 0)]) (by kernel_rfl) (fun _ _=>by kernel_rfl) (fun _=>by kernel_rfl) (fun _=>by kernel_rfl) (fun p2=>?_) (fun p2 W2 T hF hK=>?_)
 ·iterate 2 refine ok_L (by kernel_rfl) (by kernel_rfl) (by kernel_rfl) ?_
  refine ok_c (fun W cx=>as_v (unhide HC _)) (by kernel_rfl) ?_
  refine ok_v (by kernel_rfl) ?_
  exact ok_nil
 replace hS:=SymF.fb hS hF [0,1,2] [⟨(p1 0).N,#[.bool g,.string s,.int .i64 x],23,true⟩,⟨(p1 1).N,#[.bool g2,.string s2,.int .i64 x2],23,true⟩,⟨(p1 2).N,#[.bool false,.string ⟨#[]⟩,.int .i64 0],23,true⟩] (by kernel_rfl) (by kernel_rfl)
 replace hG:=hF.gx
 clear hF
 have z2:=hS.fr.size
 refine wp_seq ?_
 refine wp_symQ hS hG hK (fun p3=>[.v 19 (.int .i64 0),.v 20 (.bool false)]) (fun p3=>[(2,.pointer (some ⟨(p1 0).N,0,none⟩)),(3,.pointer (some ⟨(p1 1).N,0,none⟩)),(4,.pointer (some ⟨(p1 2).N,0,none⟩)),(5,.int .i64 0),(6,.int .i64 0),(20,.bool false)]) (by kernel_rfl) (fun _ _=>by kernel_rfl) (fun _=>by kernel_rfl) (fun _=>by kernel_rfl) (fun p3=>?_) (fun p3 W3 T hF hK=>?_)
 ·iterate 2 refine ok_v (by kernel_rfl) ?_
  exact ok_nil
 replace hS:=SymF.fb hS hF [0,1,2] [⟨(p1 0).N,#[.bool g,.string s,.int .i64 x],23,true⟩,⟨(p1 1).N,#[.bool g2,.string s2,.int .i64 x2],23,true⟩,⟨(p1 2).N,#[.bool false,.string ⟨#[]⟩,.int .i64 0],23,true⟩] (by kernel_rfl) (by kernel_rfl)
 replace hG:=hF.gx
 clear hF
 have z3:=hS.fr.size
 refine wp_cond_false (hK.ev 20 (by kernel_rfl) _ (by kernel_rfl)) ?_
 refine wp_skip ?_
 refine then_n ?_
 refine wp_seq ?_
 refine wp_symQ hS hG hK (fun p4=>[.l 23 (.agg #[.bool g,.string s,.int .i64 x]) 0 0,.c (some 24) (cV (.bool false)),.v 25 (.bool false),.k (some 26),.k (some 27),.v 28 (.bool false)]) (fun p4=>[(2,.pointer (some ⟨(p1 0).N,0,none⟩)),(3,.pointer (some ⟨(p1 1).N,0,none⟩)),(4,.pointer (some ⟨(p1 2).N,0,none⟩)),(5,.int .i64 0),(6,.int .i64 0),(20,.bool false),(28,.bool false)]) (by kernel_rfl) (fun _ _=>by kernel_rfl) (fun _=>by kernel_rfl) (fun _=>by kernel_rfl) (fun p4=>?_) (fun p4 W4 T hF hK=>?_)
 ·refine ok_L (by kernel_rfl) (by kernel_rfl) (by kernel_rfl) ?_
  refine ok_c (fun W cx=>as_v (rnone_f _ g s x ha)) (by kernel_rfl) ?_
  refine ok_v (by kernel_rfl) ?_
  iterate 2 refine ok_K (by kernel_rfl) ?_
  refine ok_v (by kernel_rfl) ?_
  exact ok_nil
 replace hS:=SymF.fb hS hF [0,1,2] [⟨(p1 0).N,#[.bool g,.string s,.int .i64 x],23,true⟩,⟨(p1 1).N,#[.bool g2,.string s2,.int .i64 x2],23,true⟩,⟨(p1 2).N,#[.bool false,.string ⟨#[]⟩,.int .i64 0],23,true⟩] (by kernel_rfl) (by kernel_rfl)
 replace hG:=hF.gx
 clear hF
 have z4:=hS.fr.size
 refine wp_cond_false (hK.ev 28 (by kernel_rfl) _ (by kernel_rfl)) ?_
 refine wp_skip ?_
 refine then_n ?_
 refine wp_seq ?_
 refine wp_symQ hS hG hK (fun p5=>[.l 36 (.agg #[.bool g,.string s,.int .i64 x]) 0 0,.c (some 37) (cV (.bool false))]) (fun p5=>[(2,.pointer (some ⟨(p1 0).N,0,none⟩)),(3,.pointer (some ⟨(p1 1).N,0,none⟩)),(4,.pointer (some ⟨(p1 2).N,0,none⟩)),(5,.int .i64 0),(6,.int .i64 0),(20,.bool false),(28,.bool false),(37,.bool false)]) (by kernel_rfl) (fun _ _=>by kernel_rfl) (fun _=>by kernel_rfl) (fun _=>by kernel_rfl) (fun p5=>?_) (fun p5 W5 T hF hK=>?_)
 ·refine ok_L (by kernel_rfl) (by kernel_rfl) (by kernel_rfl) ?_
  refine ok_c (fun W cx=>as_v (rnone_f _ g s x ha)) (by kernel_rfl) ?_
  exact ok_nil
 replace hS:=SymF.fb hS hF [0,1,2] [⟨(p1 0).N,#[.bool g,.string s,.int .i64 x],23,true⟩,⟨(p1 1).N,#[.bool g2,.string s2,.int .i64 x2],23,true⟩,⟨(p1 2).N,#[.bool false,.string ⟨#[]⟩,.int .i64 0],23,true⟩] (by kernel_rfl) (by kernel_rfl)
 replace hG:=hF.gx
 clear hF
 have z5:=hS.fr.size
 refine wp_cond_false (hK.ev 37 (by kernel_rfl) _ (by kernel_rfl)) ?_
 refine wp_skip ?_
 refine then_n ?_
 refine wp_seq ?_
 refine wp_symQ hS hG hK (fun p6=>[.l 39 (.agg #[.bool g2,.string s2,.int .i64 x2]) 1 0,.c (some 40) (cV (.bool false))]) (fun p6=>[(2,.pointer (some ⟨(p1 0).N,0,none⟩)),(3,.pointer (some ⟨(p1 1).N,0,none⟩)),(4,.pointer (some ⟨(p1 2).N,0,none⟩)),(5,.int .i64 0),(6,.int .i64 0),(20,.bool false),(28,.bool false),(37,.bool false),(40,.bool false)]) (by kernel_rfl) (fun _ _=>by kernel_rfl) (fun _=>by kernel_rfl) (fun _=>by kernel_rfl) (fun p6=>?_) (fun p6 W6 T hF hK=>?_)
 ·refine ok_L (by kernel_rfl) (by kernel_rfl) (by kernel_rfl) ?_
  refine ok_c (fun W cx=>as_v (rnone_f _ g2 s2 x2 hb)) (by kernel_rfl) ?_
  exact ok_nil
 replace hS:=SymF.fb hS hF [0,1,2] [⟨(p1 0).N,#[.bool g,.string s,.int .i64 x],23,true⟩,⟨(p1 1).N,#[.bool g2,.string s2,.int .i64 x2],23,true⟩,⟨(p1 2).N,#[.bool false,.string ⟨#[]⟩,.int .i64 0],23,true⟩] (by kernel_rfl) (by kernel_rfl)
 replace hG:=hF.gx
 clear hF
 have z6:=hS.fr.size
 refine wp_cond_false (hK.ev 40 (by kernel_rfl) _ (by kernel_rfl)) ?_
 refine wp_skip ?_
 refine then_n ?_
 refine wp_symQ hS hG hK (fun p7=>[.v 42 (.pointer (some ⟨(p1 0).N,2,none⟩)),.l 43 (.int .i64 x) 0 2,.v 44 (.pointer (some ⟨(p1 1).N,2,none⟩)),.l 45 (.int .i64 x2) 1 2,.v 46 (.int .i64 ex),.v 7 (.int .i64 ex)]) (fun p7=>[(2,.pointer (some ⟨(p1 0).N,0,none⟩)),(3,.pointer (some ⟨(p1 1).N,0,none⟩)),(4,.pointer (some ⟨(p1 2).N,0,none⟩)),(5,.int .i64 0),(6,.int .i64 0),(7,.int .i64 ex),(20,.bool false),(28,.bool false),(37,.bool false),(40,.bool false)]) (by kernel_rfl) (fun _ _=>by kernel_rfl) (fun _=>by kernel_rfl) (fun _=>by kernel_rfl) (fun p7=>?_) (fun p7 W7 T hF hK=>?_)
 ·refine ok_v (by kernel_rfl) ?_
  refine ok_L (by kernel_rfl) (by kernel_rfl) (by kernel_rfl) ?_
  refine ok_v (by kernel_rfl) ?_
  refine ok_L (by kernel_rfl) (by kernel_rfl) (by kernel_rfl) ?_
  refine ok_vi ((imin _ _).trans hmin) (by kernel_rfl) ?_
  refine ok_v (by kernel_rfl) ?_
  exact ok_nil
 replace hS:=SymF.fb hS hF [0,1,2] [⟨(p1 0).N,#[.bool g,.string s,.int .i64 x],23,true⟩,⟨(p1 1).N,#[.bool g2,.string s2,.int .i64 x2],23,true⟩,⟨(p1 2).N,#[.bool false,.string ⟨#[]⟩,.int .i64 0],23,true⟩] (by kernel_rfl) (by kernel_rfl)
 replace hG:=hF.gx
 clear hF
 have z7:=hS.fr.size
 refine wp_seq ?_
 refine wp_symQ hS hG hK (fun p8=>[.v 47 (.pointer (some ⟨(p1 0).N,1,none⟩)),.l 48 (.string s) 0 1,.v 49 (.int .i64 (s.size:Int)),.v 50 (.pointer (some ⟨(p1 0).N,2,none⟩)),.l 51 (.int .i64 x) 0 2,.v 52 (.int .i64 ((s.size:Int)+x)),.v 53 (.int .i64 ex),.v 54 (.int .i64 ((s.size:Int)+x - ex)),.v 55 (.bool false),.v 56 (.bool false),.v 57 (.pointer (some ⟨(p1 1).N,1,none⟩)),.l 58 (.string s2) 1 1,.v 59 (.int .i64 (s2.size:Int)),.v 60 (.pointer (some ⟨(p1 1).N,2,none⟩)),.l 61 (.int .i64 x2) 1 2,.v 62 (.int .i64 ((s2.size:Int)+x2)),.v 63 (.int .i64 ex),.v 64 (.int .i64 ((s2.size:Int)+x2 - ex)),.v 65 (.bool false),.v 66 (.bool false)]) (fun p8=>[(2,.pointer (some ⟨(p1 0).N,0,none⟩)),(3,.pointer (some ⟨(p1 1).N,0,none⟩)),(4,.pointer (some ⟨(p1 2).N,0,none⟩)),(5,.int .i64 0),(6,.int .i64 0),(7,.int .i64 ex),(20,.bool false),(28,.bool false),(37,.bool false),(40,.bool false),(66,.bool false)]) (by kernel_rfl) (fun _ _=>by kernel_rfl) (fun _=>by kernel_rfl) (fun _=>by kernel_rfl) (fun p8=>?_) (fun p8 W8 T hF hK=>?_)
 ·refine ok_v (by kernel_rfl) ?_
  refine ok_L (by kernel_rfl) (by kernel_rfl) (by kernel_rfl) ?_
  iterate 2 refine ok_v (by kernel_rfl) ?_
  refine ok_L (by kernel_rfl) (by kernel_rfl) (by kernel_rfl) ?_
  refine ok_vi (wr64 (x:=(s.size:Int)+x) (by omega) (by omega)) (by kernel_rfl) ?_
  refine ok_v (by kernel_rfl) ?_
  refine ok_vi (wr64 (x:=(s.size:Int)+x - ex) (by omega) (by omega)) (by kernel_rfl) ?_
  refine ok_vb (decide_eq_false (show ¬ ((s.size:Int)+x - ex) > 65536 by omega)) (by kernel_rfl) ?_
  iterate 2 refine ok_v (by kernel_rfl) ?_
  refine ok_L (by kernel_rfl) (by kernel_rfl) (by kernel_rfl) ?_
  iterate 2 refine ok_v (by kernel_rfl) ?_
  refine ok_L (by kernel_rfl) (by kernel_rfl) (by kernel_rfl) ?_
  refine ok_vi (wr64 (x:=(s2.size:Int)+x2) (by omega) (by omega)) (by kernel_rfl) ?_
  refine ok_v (by kernel_rfl) ?_
  refine ok_vi (wr64 (x:=(s2.size:Int)+x2 - ex) (by omega) (by omega)) (by kernel_rfl) ?_
  refine ok_vb (decide_eq_false (show ¬ ((s2.size:Int)+x2 - ex) > 65536 by omega)) (by kernel_rfl) ?_
  refine ok_v (by kernel_rfl) ?_
  exact ok_nil
 replace hS:=SymF.fb hS hF [0,1,2] [⟨(p1 0).N,#[.bool g,.string s,.int .i64 x],23,true⟩,⟨(p1 1).N,#[.bool g2,.string s2,.int .i64 x2],23,true⟩,⟨(p1 2).N,#[.bool false,.string ⟨#[]⟩,.int .i64 0],23,true⟩] (by kernel_rfl) (by kernel_rfl)
 replace hG:=hF.gx
 clear hF
 have z8:=hS.fr.size
 refine wp_cond_false (hK.ev 66 (by kernel_rfl) _ (by kernel_rfl)) ?_
 refine wp_skip ?_
 refine then_n ?_
 refine wp_symQ hS hG hK (fun p9=>[.v 68 (.pointer (some ⟨(p1 0).N,1,none⟩)),.l 69 (.string s) 0 1,.v 70 (.pointer (some ⟨(p1 0).N,2,none⟩)),.l 71 (.int .i64 x) 0 2,.v 72 (.int .i64 ex),.v 73 (.int .i64 (o1:Int)),.c (some 74) (cV (.string (noS o1))),.v 75 (.string (s ++ noS o1)),.c (some 76) (cN W8.heap.size M),.v 77 (.pointer (some ⟨(p1 1).N,1,none⟩)),.l 78 (.string s2) 1 1,.v 79 (.pointer (some ⟨(p1 1).N,2,none⟩)),.l 80 (.int .i64 x2) 1 2,.v 81 (.int .i64 ex),.v 82 (.int .i64 (o2:Int)),.c (some 83) (cV (.string (noS o2))),.v 84 (.string (s2 ++ noS o2)),.c (some 85) (cN W8.heap.size N),.n 8 #[.slice none 0 0] 60,.n 9 #[.slice none 0 0] 60,.p 1018 0 [.slice (p9 8).A (p9 8).N (p9 8).C],.p 1019 0 [.slice (p9 17).A (p9 17).N (p9 17).C]]) (fun p9=>[(2,.pointer (some ⟨(p1 0).N,0,none⟩)),(3,.pointer (some ⟨(p1 1).N,0,none⟩)),(4,.pointer (some ⟨(p1 2).N,0,none⟩)),(5,.int .i64 0),(6,.int .i64 0),(7,.int .i64 ex),(8,.pointer (some ⟨(p9 18).N,0,none⟩)),(9,.pointer (some ⟨(p9 19).N,0,none⟩)),(20,.bool false),(28,.bool false),(37,.bool false),(40,.bool false),(66,.bool false)]) (by kernel_rfl) (fun _ _=>by kernel_rfl) (fun _=>by kernel_rfl) (fun _=>by kernel_rfl) (fun p9=>?_) (fun p9 W9 T hF hK=>?_)
 ·refine ok_v (by kernel_rfl) ?_
  refine ok_L (by kernel_rfl) (by kernel_rfl) (by kernel_rfl) ?_
  refine ok_v (by kernel_rfl) ?_
  refine ok_L (by kernel_rfl) (by kernel_rfl) (by kernel_rfl) ?_
  refine ok_v (by kernel_rfl) ?_
  refine ok_vi ((wr64 (x:=x - ex) (by omega) (by omega)).trans hz1) (by kernel_rfl) ?_
  refine ok_c (fun W cx=>as_v (rnoughts_any o1 (by omega) _)) (by kernel_rfl) ?_
  refine ok_vr (hcat1) (by kernel_rfl) ?_
  refine ok_c (fun W cx=>as_n cx.hb (unhide H1 _)) (by kernel_rfl) ?_
  refine ok_v (by kernel_rfl) ?_
  refine ok_L (by kernel_rfl) (by kernel_rfl) (by kernel_rfl) ?_
  refine ok_v (by kernel_rfl) ?_
  refine ok_L (by kernel_rfl) (by kernel_rfl) (by kernel_rfl) ?_
  refine ok_v (by kernel_rfl) ?_
  refine ok_vi ((wr64 (x:=x2 - ex) (by omega) (by omega)).trans hz2) (by kernel_rfl) ?_
  refine ok_c (fun W cx=>as_v (rnoughts_any o2 (by omega) _)) (by kernel_rfl) ?_
  refine ok_vr (hcat2) (by kernel_rfl) ?_
  refine ok_c (fun W cx=>as_n cx.hb (unhide H2 _)) (by kernel_rfl) ?_
  iterate 2 refine ok_n (fun _=>by kernel_rfl) ?_
  iterate 2 refine ok_P (by kernel_rfl) (by kernel_rfl) (by kernel_rfl) ?_
  exact ok_nil
 replace hS:=SymF.fb hS hF [0,1,2,1018,1019] [⟨(p1 0).N,#[.bool g,.string s,.int .i64 x],23,true⟩,⟨(p1 1).N,#[.bool g2,.string s2,.int .i64 x2],23,true⟩,⟨(p1 2).N,#[.bool false,.string ⟨#[]⟩,.int .i64 0],23,true⟩,⟨(p9 18).N,#[.slice (p9 8).A (p9 8).N (p9 8).C],60,true⟩,⟨(p9 19).N,#[.slice (p9 17).A (p9 17).N (p9 17).C],60,true⟩] (by kernel_rfl) (by kernel_rfl)
 replace hG:GsAt (gM W8.heap.size (p9 8).A (p9 8).N (p9 8).C M :: gM W8.heap.size (p9 17).A (p9 17).N (p9 17).C N :: _) W9:=⟨hF.fx 8,hF.fx 17,hF.gx⟩
 clear hF
 have z9:=hS.fr.size
 refine wp_symQ hS hG hK (fun p10=>[.v 86 (.pointer (some ⟨(p1 0).N,0,none⟩)),.l 87 (.bool g) 0 0,.v 10 (.bool g)]) (fun p10=>[(2,.pointer (some ⟨(p1 0).N,0,none⟩)),(3,.pointer (some ⟨(p1 1).N,0,none⟩)),(4,.pointer (some ⟨(p1 2).N,0,none⟩)),(5,.int .i64 0),(6,.int .i64 0),(7,.int .i64 ex),(8,.pointer (some ⟨(p9 18).N,0,none⟩)),(9,.pointer (some ⟨(p9 19).N,0,none⟩)),(10,.bool g),(20,.bool false),(28,.bool false),(37,.bool false),(40,.bool false),(66,.bool false)]) (by kernel_rfl) (fun _ _=>by kernel_rfl) (fun _=>by kernel_rfl) (fun _=>by kernel_rfl) (fun p10=>?_) (fun p10 W10 T hF hK=>?_)
 ·refine ok_v (by kernel_rfl) ?_
  refine ok_L (by kernel_rfl) (by kernel_rfl) (by kernel_rfl) ?_
  refine ok_v (by kernel_rfl) ?_
  exact ok_nil
 replace hS:=SymF.fb hS hF [0,1,2,3,4] [⟨(p1 0).N,#[.bool g,.string s,.int .i64 x],23,true⟩,⟨(p1 1).N,#[.bool g2,.string s2,.int .i64 x2],23,true⟩,⟨(p1 2).N,#[.bool false,.string ⟨#[]⟩,.int .i64 0],23,true⟩,⟨(p9 18).N,#[.slice (p9 8).A (p9 8).N (p9 8).C],60,true⟩,⟨(p9 19).N,#[.slice (p9 17).A (p9 17).N (p9 17).C],60,true⟩] (by kernel_rfl) (by kernel_rfl)
 replace hG:=hF.gx
 clear hF
 have z10:=hS.fr.size
 refine wp_symQ hS hG hK (fun p11=>[.n 11 #[.slice none 0 0] 60]) (fun p11=>[(2,.pointer (some ⟨(p1 0).N,0,none⟩)),(3,.pointer (some ⟨(p1 1).N,0,none⟩)),(4,.pointer (some ⟨(p1 2).N,0,none⟩)),(5,.int .i64 0),(6,.int .i64 0),(7,.int .i64 ex),(8,.pointer (some ⟨(p9 18).N,0,none⟩)),(9,.pointer (some ⟨(p9 19).N,0,none⟩)),(10,.bool g),(11,.pointer (some ⟨(p11 0).N,0,none⟩)),(20,.bool false),(28,.bool false),(37,.bool false),(40,.bool false),(66,.bool false)]) (by kernel_rfl) (fun _ _=>by kernel_rfl) (fun _=>by kernel_rfl) (fun _=>by kernel_rfl) (fun p11=>?_) (fun p11 W11 T hF hK=>?_)
 ·refine ok_n (fun _=>by kernel_rfl) ?_
  exact ok_nil
 replace hS:=SymF.fb hS hF [0,1,2,3,4,1000] [⟨(p1 0).N,#[.bool g,.string s,.int .i64 x],23,true⟩,⟨(p1 1).N,#[.bool g2,.string s2,.int .i64 x2],23,true⟩,⟨(p1 2).N,#[.bool false,.string ⟨#[]⟩,.int .i64 0],23,true⟩,⟨(p9 18).N,#[.slice (p9 8).A (p9 8).N (p9 8).C],60,true⟩,⟨(p9 19).N,#[.slice (p9 17).A (p9 17).N (p9 17).C],60,true⟩,⟨(p11 0).N,#[.slice none 0 0],60,true⟩] (by kernel_rfl) (by kernel_rfl)
 replace hG:=hF.gx
 clear hF
 have z11:=hS.fr.size
 refine wp_symQ hS hG hK (fun p12=>[.l 89 (.agg #[.slice (p9 8).A (p9 8).N (p9 8).C]) 3 0,.l 90 (.agg #[.slice (p9 17).A (p9 17).N (p9 17).C]) 4 0,.c (some 91) (cV (.tuple #[.int .i64 1,.int .i64 0])),.v 88 (.tuple #[.int .i64 1,.int .i64 0]),.v 92 (.int .i64 1),.v 93 (.int .i64 0),.v 12 (.int .i64 1),.v 13 (.int .i64 0)]) (fun p12=>[(2,.pointer (some ⟨(p1 0).N,0,none⟩)),(3,.pointer (some ⟨(p1 1).N,0,none⟩)),(4,.pointer (some ⟨(p1 2).N,0,none⟩)),(5,.int .i64 0),(6,.int .i64 0),(7,.int .i64 ex),(8,.pointer (some ⟨(p9 18).N,0,none⟩)),(9,.pointer (some ⟨(p9 19).N,0,none⟩)),(10,.bool g),(11,.pointer (some ⟨(p11 0).N,0,none⟩)),(12,.int .i64 1),(20,.bool false),(28,.bool false),(37,.bool false),(40,.bool false),(66,.bool false)]) (by kernel_rfl) (fun _ _=>by kernel_rfl) (fun _=>by kernel_rfl) (fun _=>by kernel_rfl) (fun p12=>?_) (fun p12 W12 T hF hK=>?_)
 ·iterate 2 refine ok_L (by kernel_rfl) (by kernel_rfl) (by kernel_rfl) ?_
  refine ok_c (fun W cx=>as_v (unhide HK _ _ _ (p9 8).C _ _ (p9 17).C (Mine.num cx.G.1) (Mine.num cx.G.2.1))) (by kernel_rfl) ?_
  iterate 5 refine ok_v (by kernel_rfl) ?_
  exact ok_nil
 replace hS:=SymF.fb hS hF [0,1,2,3,4,5] [⟨(p1 0).N,#[.bool g,.string s,.int .i64 x],23,true⟩,⟨(p1 1).N,#[.bool g2,.string s2,.int .i64 x2],23,true⟩,⟨(p1 2).N,#[.bool false,.string ⟨#[]⟩,.int .i64 0],23,true⟩,⟨(p9 18).N,#[.slice (p9 8).A (p9 8).N (p9 8).C],60,true⟩,⟨(p9 19).N,#[.slice (p9 17).A (p9 17).N (p9 17).C],60,true⟩,⟨(p11 0).N,#[.slice none 0 0],60,true⟩] (by kernel_rfl) (by kernel_rfl)
 replace hG:=hF.gx
 clear hF
 have z12:=hS.fr.size
 refine wp_seq ?_
 refine wp_block ?_
 refine wp_symQ hS hG hK (fun p13=>[.v 104 (.pointer (some ⟨(p1 0).N,0,none⟩)),.l 105 (.bool g) 0 0,.v 106 (.pointer (some ⟨(p1 1).N,0,none⟩)),.l 107 (.bool g2) 1 0,.v 108 (.bool false),.v 103 (.bool false)]) (fun p13=>[(2,.pointer (some ⟨(p1 0).N,0,none⟩)),(3,.pointer (some ⟨(p1 1).N,0,none⟩)),(4,.pointer (some ⟨(p1 2).N,0,none⟩)),(5,.int .i64 0),(6,.int .i64 0),(7,.int .i64 ex),(8,.pointer (some ⟨(p9 18).N,0,none⟩)),(9,.pointer (some ⟨(p9 19).N,0,none⟩)),(10,.bool g),(11,.pointer (some ⟨(p11 0).N,0,none⟩)),(12,.int .i64 1),(20,.bool false),(28,.bool false),(37,.bool false),(40,.bool false),(66,.bool false),(103,.bool false)]) (by kernel_rfl) (fun _ _=>by kernel_rfl) (fun _=>by kernel_rfl) (fun _=>by kernel_rfl) (fun p13=>?_) (fun p13 W13 T hF hK=>?_)
 ·refine ok_v (by kernel_rfl) ?_
  refine ok_L (by kernel_rfl) (by kernel_rfl) (by kernel_rfl) ?_
  refine ok_v (by kernel_rfl) ?_
  refine ok_L (by kernel_rfl) (by kernel_rfl) (by kernel_rfl) ?_
  refine ok_vb (hg) (by kernel_rfl) ?_
  refine ok_v (by kernel_rfl) ?_
  exact ok_nil
 replace hS:=SymF.fb hS hF [0,1,2,3,4,5] [⟨(p1 0).N,#[.bool g,.string s,.int .i64 x],23,true⟩,⟨(p1 1).N,#[.bool g2,.string s2,.int .i64 x2],23,true⟩,⟨(p1 2).N,#[.bool false,.string ⟨#[]⟩,.int .i64 0],23,true⟩,⟨(p9 18).N,#[.slice (p9 8).A (p9 8).N (p9 8).C],60,true⟩,⟨(p9 19).N,#[.slice (p9 17).A (p9 17).N (p9 17).C],60,true⟩,⟨(p11 0).N,#[.slice none 0 0],60,true⟩] (by kernel_rfl) (by kernel_rfl)
 replace hG:=hF.gx
 clear hF
 have z13:=hS.fr.size
 refine wp_cond_false (hK.ev 103 (by kernel_rfl) _ (by kernel_rfl)) ?_
 refine wp_symQ hS hG hK (fun p14=>[.v 116 (.int .i64 1),.v 117 (.bool false),.v 115 (.bool false)]) (fun p14=>[(2,.pointer (some ⟨(p1 0).N,0,none⟩)),(3,.pointer (some ⟨(p1 1).N,0,none⟩)),(4,.pointer (some ⟨(p1 2).N,0,none⟩)),(5,.int .i64 0),(6,.int .i64 0),(7,.int .i64 ex),(8,.pointer (some ⟨(p9 18).N,0,none⟩)),(9,.pointer (some ⟨(p9 19).N,0,none⟩)),(10,.bool g),(11,.pointer (some ⟨(p11 0).N,0,none⟩)),(12,.int .i64 1),(20,.bool false),(28,.bool false),(37,.bool false),(40,.bool false),(66,.bool false),(103,.bool false),(115,.bool false)]) (by kernel_rfl) (fun _ _=>by kernel_rfl) (fun _=>by kernel_rfl) (fun _=>by kernel_rfl) (fun p14=>?_) (fun p14 W14 T hF hK=>?_)
 ·iterate 3 refine ok_v (by kernel_rfl) ?_
  exact ok_nil
 replace hS:=SymF.fb hS hF [0,1,2,3,4,5] [⟨(p1 0).N,#[.bool g,.string s,.int .i64 x],23,true⟩,⟨(p1 1).N,#[.bool g2,.string s2,.int .i64 x2],23,true⟩,⟨(p1 2).N,#[.bool false,.string ⟨#[]⟩,.int .i64 0],23,true⟩,⟨(p9 18).N,#[.slice (p9 8).A (p9 8).N (p9 8).C],60,true⟩,⟨(p9 19).N,#[.slice (p9 17).A (p9 17).N (p9 17).C],60,true⟩,⟨(p11 0).N,#[.slice none 0 0],60,true⟩] (by kernel_rfl) (by kernel_rfl)
 replace hG:=hF.gx
 clear hF
 have z14:=hS.fr.size
 refine wp_cond_false (hK.ev 115 (by kernel_rfl) _ (by kernel_rfl)) ?_
 refine wp_symQ hS hG hK (fun p15=>[.v 119 (.int .i64 1),.v 120 (.bool true),.v 118 (.bool true)]) (fun p15=>[(2,.pointer (some ⟨(p1 0).N,0,none⟩)),(3,.pointer (some ⟨(p1 1).N,0,none⟩)),(4,.pointer (some ⟨(p1 2).N,0,none⟩)),(5,.int .i64 0),(6,.int .i64 0),(7,.int .i64 ex),(8,.pointer (some ⟨(p9 18).N,0,none⟩)),(9,.pointer (some ⟨(p9 19).N,0,none⟩)),(10,.bool g),(11,.pointer (some ⟨(p11 0).N,0,none⟩)),(20,.bool false),(28,.bool false),(37,.bool false),(40,.bool false),(66,.bool false),(103,.bool false),(115,.bool false),(118,.bool true)]) (by kernel_rfl) (fun _ _=>by kernel_rfl) (fun _=>by kernel_rfl) (fun _=>by kernel_rfl) (fun p15=>?_) (fun p15 W15 T hF hK=>?_)
 ·iterate 3 refine ok_v (by kernel_rfl) ?_
  exact ok_nil
 replace hS:=SymF.fb hS hF [0,1,2,3,4,5] [⟨(p1 0).N,#[.bool g,.string s,.int .i64 x],23,true⟩,⟨(p1 1).N,#[.bool g2,.string s2,.int .i64 x2],23,true⟩,⟨(p1 2).N,#[.bool false,.string ⟨#[]⟩,.int .i64 0],23,true⟩,⟨(p9 18).N,#[.slice (p9 8).A (p9 8).N (p9 8).C],60,true⟩,⟨(p9 19).N,#[.slice (p9 17).A (p9 17).N (p9 17).C],60,true⟩,⟨(p11 0).N,#[.slice none 0 0],60,true⟩] (by kernel_rfl) (by kernel_rfl)
 replace hG:=hF.gx
 clear hF
 have z15:=hS.fr.size
 refine wp_cond_true (hK.ev 118 (by kernel_rfl) _ (by kernel_rfl)) ?_
 refine wp_symG hS hG hK (fun p16=>[.l 122 (.agg #[.slice (p9 8).A (p9 8).N (p9 8).C]) 3 0,.l 123 (.agg #[.slice (p9 17).A (p9 17).N (p9 17).C]) 4 0,.c (some 124) (cG W15.heap.size (M - N) fun x9=>.tuple #[.agg #[x9],.bool true,.int .i64 0]),.v 121 (.tuple #[.agg #[.slice (p16 2).A (p16 2).N (p16 2).C],.bool true,.int .i64 0]),.v 125 (.agg #[.slice (p16 2).A (p16 2).N (p16 2).C]),.v 126 (.bool true),.v 127 (.int .i64 0),.p 5 0 [.slice (p16 2).A (p16 2).N (p16 2).C]]) (fun p16=>[(2,.pointer (some ⟨(p1 0).N,0,none⟩)),(3,.pointer (some ⟨(p1 1).N,0,none⟩)),(4,.pointer (some ⟨(p1 2).N,0,none⟩)),(5,.int .i64 0),(6,.int .i64 0),(7,.int .i64 ex),(8,.pointer (some ⟨(p9 18).N,0,none⟩)),(9,.pointer (some ⟨(p9 19).N,0,none⟩)),(10,.bool g),(11,.pointer (some ⟨(p11 0).N,0,none⟩)),(20,.bool false),(28,.bool false),(37,.bool false),(40,.bool false),(66,.bool false),(103,.bool false),(115,.bool false),(118,.bool true)]) (by kernel_rfl) (fun _ _=>by kernel_rfl) (fun _=>by kernel_rfl) (fun _=>by kernel_rfl) (fun p16=>?_) (fun p16 W16 T hF hK=>?_)
 ·iterate 2 refine ok_L (by kernel_rfl) (by kernel_rfl) (by kernel_rfl) ?_
  refine ok_c (fun W cx=>as_g cx.hb (unhide HA _ _ _ (p9 8).C _ _ (p9 17).C (Mine.num cx.G.1) (Mine.num cx.G.2.1))) (by kernel_rfl) ?_
  iterate 4 refine ok_v (by kernel_rfl) ?_
  refine ok_P (by kernel_rfl) (by kernel_rfl) (by kernel_rfl) ?_
  exact ok_nil
 replace hS:=SymF.fb hS hF [0,1,2,3,4,5] [⟨(p1 0).N,#[.bool g,.string s,.int .i64 x],23,true⟩,⟨(p1 1).N,#[.bool g2,.string s2,.int .i64 x2],23,true⟩,⟨(p1 2).N,#[.bool false,.string ⟨#[]⟩,.int .i64 0],23,true⟩,⟨(p9 18).N,#[.slice (p9 8).A (p9 8).N (p9 8).C],60,true⟩,⟨(p9 19).N,#[.slice (p9 17).A (p9 17).N (p9 17).C],60,true⟩,⟨(p11 0).N,#[.slice (p16 2).A (p16 2).N (p16 2).C],60,true⟩] (by kernel_rfl) (by kernel_rfl)
 replace hG:GsAt (gM W15.heap.size (p16 2).A (p16 2).N (p16 2).C (M - N) :: _) W16:=⟨hF.fx 2,hF.gx⟩
 clear hF
 have z16:=hS.fr.size
 refine inb_n ?_
 refine then_n ?_
 refine wp_symQ hS hG hK (fun p17=>[.l 129 (.agg #[.slice (p16 2).A (p16 2).N (p16 2).C]) 5 0,.c (some 130) (cV (.tuple #[.string t,.int .i64 0])),.v 128 (.tuple #[.string t,.int .i64 0]),.v 131 (.string t),.v 132 (.int .i64 0),.v 14 (.string t),.v 15 (.int .i64 0)]) (fun p17=>[(2,.pointer (some ⟨(p1 0).N,0,none⟩)),(3,.pointer (some ⟨(p1 1).N,0,none⟩)),(4,.pointer (some ⟨(p1 2).N,0,none⟩)),(5,.int .i64 0),(6,.int .i64 0),(7,.int .i64 ex),(8,.pointer (some ⟨(p9 18).N,0,none⟩)),(9,.pointer (some ⟨(p9 19).N,0,none⟩)),(10,.bool g),(11,.pointer (some ⟨(p11 0).N,0,none⟩)),(14,.string t),(20,.bool false),(28,.bool false),(37,.bool false),(40,.bool false),(66,.bool false),(103,.bool false),(115,.bool false),(118,.bool true)]) (by kernel_rfl) (fun _ _=>by kernel_rfl) (fun _=>by kernel_rfl) (fun _=>by kernel_rfl) (fun p17=>?_) (fun p17 W17 T hF hK=>?_)
 ·refine ok_L (by kernel_rfl) (by kernel_rfl) (by kernel_rfl) ?_
  refine ok_c (fun W cx=>as_v (unhide HT _ _ _ (p16 2).C (Mine.num cx.G.1))) (by kernel_rfl) ?_
  iterate 5 refine ok_v (by kernel_rfl) ?_
  exact ok_nil
 replace hS:=SymF.fb hS hF [0,1,2,3,4,5] [⟨(p1 0).N,#[.bool g,.string s,.int .i64 x],23,true⟩,⟨(p1 1).N,#[.bool g2,.string s2,.int .i64 x2],23,true⟩,⟨(p1 2).N,#[.bool false,.string ⟨#[]⟩,.int .i64 0],23,true⟩,⟨(p9 18).N,#[.slice (p9 8).A (p9 8).N (p9 8).C],60,true⟩,⟨(p9 19).N,#[.slice (p9 17).A (p9 17).N (p9 17).C],60,true⟩,⟨(p11 0).N,#[.slice (p16 2).A (p16 2).N (p16 2).C],60,true⟩] (by kernel_rfl) (by kernel_rfl)
 replace hG:=hF.gx
 clear hF
 have z17:=hS.fr.size
 refine wp_symQ hS hG hK (fun p18=>[.v 133 (.bool g),.v 134 (.string t),.v 135 (.int .i64 ex),.c (some 136) (cV (.tuple #[.agg #[.bool g3,.string s3,.int .i64 x3],.int .i64 e3])),.v 137 (.agg #[.bool g3,.string s3,.int .i64 x3]),.v 138 (.int .i64 e3),.p 2 0 [.bool g3,.string s3,.int .i64 x3],.v 5 (.int .i64 e3)]) (fun p18=>[(2,.pointer (some ⟨(p1 0).N,0,none⟩)),(3,.pointer (some ⟨(p1 1).N,0,none⟩)),(4,.pointer (some ⟨(p1 2).N,0,none⟩)),(5,.int .i64 e3),(6,.int .i64 0),(8,.pointer (some ⟨(p9 18).N,0,none⟩)),(9,.pointer (some ⟨(p9 19).N,0,none⟩)),(11,.pointer (some ⟨(p11 0).N,0,none⟩)),(20,.bool false),(28,.bool false),(37,.bool false),(40,.bool false),(66,.bool false),(103,.bool false),(115,.bool false),(118,.bool true)]) (by kernel_rfl) (fun _ _=>by kernel_rfl) (fun _=>by kernel_rfl) (fun _=>by kernel_rfl) (fun p18=>?_) (fun p18 W18 T hF hK=>?_)
 ·iterate 3 refine ok_v (by kernel_rfl) ?_
  refine ok_c (fun W cx=>as_v (unhide HM _)) (by kernel_rfl) ?_
  iterate 2 refine ok_v (by kernel_rfl) ?_
  refine ok_P (by kernel_rfl) (by kernel_rfl) (by kernel_rfl) ?_
  refine ok_v (by kernel_rfl) ?_
  exact ok_nil
 replace hS:=SymF.fb hS hF [0,1,2,3,4,5] [⟨(p1 0).N,#[.bool g,.string s,.int .i64 x],23,true⟩,⟨(p1 1).N,#[.bool g2,.string s2,.int .i64 x2],23,true⟩,⟨(p1 2).N,#[.bool g3,.string s3,.int .i64 x3],23,true⟩,⟨(p9 18).N,#[.slice (p9 8).A (p9 8).N (p9 8).C],60,true⟩,⟨(p9 19).N,#[.slice (p9 17).A (p9 17).N (p9 17).C],60,true⟩,⟨(p11 0).N,#[.slice (p16 2).A (p16 2).N (p16 2).C],60,true⟩] (by kernel_rfl) (by kernel_rfl)
 replace hG:=hF.gx
 clear hF
 have z18:=hS.fr.size
 refine wp_ret ?_
 exact sym_end hS hK (.tuple #[.agg #[.bool g3,.string s3,.int .i64 x3],.int .i64 e3]) [(2,0,3)] [.bool g3,.string s3,.int .i64 x3] (by kernel_rfl) (by kernel_rfl) ⟨rfl,hS.fr⟩
theorem radd_lt (w:World) (g:Bool) (s:ByteArray) (x:Int) (g2:Bool) (s2:ByteArray) (x2:Int) (ex:Int) (o1 o2 M N:Nat) (t:ByteArray) (g3:Bool) (s3:ByteArray) (x3 e3:Int) (ha:s.size≠0) (hb:s2.size≠0) (hm:s.size≤65536) (hm2:s2.size≤65536) (hx0:-1073741824≤x) (hx1:x≤1073741824) (hy0:-1073741824≤x2) (hy1:x2≤1073741824) (hmin:min x x2 = ex) (hz1:x - ex = (o1:Int)) (hz2:x2 - ex = (o2:Int)) (hn1:s.size+o1≤65536) (hn2:s2.size+o2≤65536) (hg:(g == g2) = false) (HC:Hid (∀ W:World,Calls Try.prog 47 #[.agg #[.bool g,.string s,.int .i64 x],.agg #[.bool g2,.string s2,.int .i64 x2]] W fun e W'=>e = .returned (.int .i64 0)∧Below W.heap.size W W')) (H1:Hid (∀ W:World,Calls Try.prog 51 #[.string (s ++ noS o1)] W fun en W'=>(∃ a n c,en = .returned (.agg #[.slice a n c])∧Mine W' W.heap.size a n c M)∧Below W.heap.size W W')) (H2:Hid (∀ W:World,Calls Try.prog 51 #[.string (s2 ++ noS o2)] W fun en W'=>(∃ a n c,en = .returned (.agg #[.slice a n c])∧Mine W' W.heap.size a n c N)∧Below W.heap.size W W')) (HK:Hid (∀ (W:World) (a:Option Addr) (n c:Nat) (a':Option Addr) (n' c':Nat),Num W a n M→Num W a' n' N→Calls Try.prog 53 #[.agg #[.slice a n c],.agg #[.slice a' n' c']] W fun en W'=>en = .returned (.tuple #[.int .i64 (-1),.int .i64 0])∧Below W.heap.size W W')) (HA:Hid (∀ (W:World) (a:Option Addr) (n c:Nat) (a':Option Addr) (n' c':Nat),Num W a n N→Num W a' n' M→Calls Try.prog 55 #[.agg #[.slice a n c],.agg #[.slice a' n' c']] W fun en W'=>(∃ a n c,en = .returned (.tuple #[.agg #[.slice a n c],.bool true,.int .i64 0])∧Mine W' W.heap.size a n c (N - M))∧Below W.heap.size W W')) (HT:Hid (∀ (W:World) (a:Option Addr) (n c:Nat),Num W a n (N - M)→Calls Try.prog 56 #[.agg #[.slice a n c]] W fun en W'=>en = .returned (.tuple #[.string t,.int .i64 0])∧Below W.heap.size W W')) (HM:Hid (∀ W:World,Calls Try.prog 17 #[.bool g2,.string t,.int .i64 ex] W fun e W'=>e = .returned (.tuple #[.agg #[.bool g3,.string s3,.int .i64 x3],.int .i64 e3])∧Below W.heap.size W W')) :
  Calls Try.prog 20 #[.agg #[.bool g,.string s,.int .i64 x],.agg #[.bool g2,.string s2,.int .i64 x2]] w fun en w'=>en = .returned (.tuple #[.agg #[.bool g3,.string s3,.int .i64 x3],.int .i64 e3])∧Below w.heap.size w w':=by
 have hcat1:script Try.prog 0 (Op.stringOp .add s (noS o1)) [] = some (.string (s ++ noS o1),[]):=script_cat (by rw [size_noS]; omega)
 have hcat2:script Try.prog 0 (Op.stringOp .add s2 (noS o2)) [] = some (.string (s2 ++ noS o2),[]):=script_cat (by rw [size_noS]; omega)
 refine calls_sym Try.func20 rfl (by kernel_rfl) fun T hK=>?_
 replace hK:Kn T _ [(0,.agg #[.bool g,.string s,.int .i64 x]),(1,.agg #[.bool g2,.string s2,.int .i64 x2])]:=hK
 have hS:=Fb.begin w
 have hG:GsAt [] w:=trivial
 refine wp_symQ hS hG hK (fun p1=>[.n 2 #[.bool g,.string s,.int .i64 x] 23,.n 3 #[.bool g2,.string s2,.int .i64 x2] 23,.n 4 #[.bool false,.string ⟨#[]⟩,.int .i64 0] 23,.v 5 (.int .i64 0)]) (fun p1=>[(2,.pointer (some ⟨(p1 0).N,0,none⟩)),(3,.pointer (some ⟨(p1 1).N,0,none⟩)),(4,.pointer (some ⟨(p1 2).N,0,none⟩)),(5,.int .i64 0)]) (by kernel_rfl) (fun _ _=>by kernel_rfl) (fun _=>by kernel_rfl) (fun _=>by kernel_rfl) (fun p1=>?_) (fun p1 W1 T hF hK=>?_)
 ·iterate 3 refine ok_n (fun _=>by kernel_rfl) ?_
  refine ok_v (by kernel_rfl) ?_
  exact ok_nil
 replace hS:=SymF.fb hS hF [1000,1001,1002] [⟨(p1 0).N,#[.bool g,.string s,.int .i64 x],23,true⟩,⟨(p1 1).N,#[.bool g2,.string s2,.int .i64 x2],23,true⟩,⟨(p1 2).N,#[.bool false,.string ⟨#[]⟩,.int .i64 0],23,true⟩] (by kernel_rfl) (by kernel_rfl)
 replace hG:=hF.gx
 clear hF
 have z1:=hS.fr.size
 refine wp_symQ hS hG hK (fun p2=>[.l 16 (.agg #[.bool g,.string s,.int .i64 x]) 0 0,.l 17 (.agg #[.bool g2,.string s2,.int .i64 x2]) 1 0,.c (some 18) (cV (.int .i64 0)),.v 6 (.int .i64 0)]) (fun p2=>[(2,.pointer (some ⟨(p1 0).N,0,none⟩)),(3,.pointer (some ⟨(p1 1).N,0,none⟩)),(4,.pointer (some ⟨(p1 2).N,0,none⟩)),(5,.int .i64 0),(6,.int .i64 0)]) (by kernel_rfl) (fun _ _=>by kernel_rfl) (fun _=>by kernel_rfl) (fun _=>by kernel_rfl) (fun p2=>?_) (fun p2 W2 T hF hK=>?_)
 ·iterate 2 refine ok_L (by kernel_rfl) (by kernel_rfl) (by kernel_rfl) ?_
  refine ok_c (fun W cx=>as_v (unhide HC _)) (by kernel_rfl) ?_
  refine ok_v (by kernel_rfl) ?_
  exact ok_nil
 replace hS:=SymF.fb hS hF [0,1,2] [⟨(p1 0).N,#[.bool g,.string s,.int .i64 x],23,true⟩,⟨(p1 1).N,#[.bool g2,.string s2,.int .i64 x2],23,true⟩,⟨(p1 2).N,#[.bool false,.string ⟨#[]⟩,.int .i64 0],23,true⟩] (by kernel_rfl) (by kernel_rfl)
 replace hG:=hF.gx
 clear hF
 have z2:=hS.fr.size
 refine wp_seq ?_
 refine wp_symQ hS hG hK (fun p3=>[.v 19 (.int .i64 0),.v 20 (.bool false)]) (fun p3=>[(2,.pointer (some ⟨(p1 0).N,0,none⟩)),(3,.pointer (some ⟨(p1 1).N,0,none⟩)),(4,.pointer (some ⟨(p1 2).N,0,none⟩)),(5,.int .i64 0),(6,.int .i64 0),(20,.bool false)]) (by kernel_rfl) (fun _ _=>by kernel_rfl) (fun _=>by kernel_rfl) (fun _=>by kernel_rfl) (fun p3=>?_) (fun p3 W3 T hF hK=>?_)
 ·iterate 2 refine ok_v (by kernel_rfl) ?_
  exact ok_nil
 replace hS:=SymF.fb hS hF [0,1,2] [⟨(p1 0).N,#[.bool g,.string s,.int .i64 x],23,true⟩,⟨(p1 1).N,#[.bool g2,.string s2,.int .i64 x2],23,true⟩,⟨(p1 2).N,#[.bool false,.string ⟨#[]⟩,.int .i64 0],23,true⟩] (by kernel_rfl) (by kernel_rfl)
 replace hG:=hF.gx
 clear hF
 have z3:=hS.fr.size
 refine wp_cond_false (hK.ev 20 (by kernel_rfl) _ (by kernel_rfl)) ?_
 refine wp_skip ?_
 refine then_n ?_
 refine wp_seq ?_
 refine wp_symQ hS hG hK (fun p4=>[.l 23 (.agg #[.bool g,.string s,.int .i64 x]) 0 0,.c (some 24) (cV (.bool false)),.v 25 (.bool false),.k (some 26),.k (some 27),.v 28 (.bool false)]) (fun p4=>[(2,.pointer (some ⟨(p1 0).N,0,none⟩)),(3,.pointer (some ⟨(p1 1).N,0,none⟩)),(4,.pointer (some ⟨(p1 2).N,0,none⟩)),(5,.int .i64 0),(6,.int .i64 0),(20,.bool false),(28,.bool false)]) (by kernel_rfl) (fun _ _=>by kernel_rfl) (fun _=>by kernel_rfl) (fun _=>by kernel_rfl) (fun p4=>?_) (fun p4 W4 T hF hK=>?_)
 ·refine ok_L (by kernel_rfl) (by kernel_rfl) (by kernel_rfl) ?_
  refine ok_c (fun W cx=>as_v (rnone_f _ g s x ha)) (by kernel_rfl) ?_
  refine ok_v (by kernel_rfl) ?_
  iterate 2 refine ok_K (by kernel_rfl) ?_
  refine ok_v (by kernel_rfl) ?_
  exact ok_nil
 replace hS:=SymF.fb hS hF [0,1,2] [⟨(p1 0).N,#[.bool g,.string s,.int .i64 x],23,true⟩,⟨(p1 1).N,#[.bool g2,.string s2,.int .i64 x2],23,true⟩,⟨(p1 2).N,#[.bool false,.string ⟨#[]⟩,.int .i64 0],23,true⟩] (by kernel_rfl) (by kernel_rfl)
 replace hG:=hF.gx
 clear hF
 have z4:=hS.fr.size
 refine wp_cond_false (hK.ev 28 (by kernel_rfl) _ (by kernel_rfl)) ?_
 refine wp_skip ?_
 refine then_n ?_
 refine wp_seq ?_
 refine wp_symQ hS hG hK (fun p5=>[.l 36 (.agg #[.bool g,.string s,.int .i64 x]) 0 0,.c (some 37) (cV (.bool false))]) (fun p5=>[(2,.pointer (some ⟨(p1 0).N,0,none⟩)),(3,.pointer (some ⟨(p1 1).N,0,none⟩)),(4,.pointer (some ⟨(p1 2).N,0,none⟩)),(5,.int .i64 0),(6,.int .i64 0),(20,.bool false),(28,.bool false),(37,.bool false)]) (by kernel_rfl) (fun _ _=>by kernel_rfl) (fun _=>by kernel_rfl) (fun _=>by kernel_rfl) (fun p5=>?_) (fun p5 W5 T hF hK=>?_)
 ·refine ok_L (by kernel_rfl) (by kernel_rfl) (by kernel_rfl) ?_
  refine ok_c (fun W cx=>as_v (rnone_f _ g s x ha)) (by kernel_rfl) ?_
  exact ok_nil
 replace hS:=SymF.fb hS hF [0,1,2] [⟨(p1 0).N,#[.bool g,.string s,.int .i64 x],23,true⟩,⟨(p1 1).N,#[.bool g2,.string s2,.int .i64 x2],23,true⟩,⟨(p1 2).N,#[.bool false,.string ⟨#[]⟩,.int .i64 0],23,true⟩] (by kernel_rfl) (by kernel_rfl)
 replace hG:=hF.gx
 clear hF
 have z5:=hS.fr.size
 refine wp_cond_false (hK.ev 37 (by kernel_rfl) _ (by kernel_rfl)) ?_
 refine wp_skip ?_
 refine then_n ?_
 refine wp_seq ?_
 refine wp_symQ hS hG hK (fun p6=>[.l 39 (.agg #[.bool g2,.string s2,.int .i64 x2]) 1 0,.c (some 40) (cV (.bool false))]) (fun p6=>[(2,.pointer (some ⟨(p1 0).N,0,none⟩)),(3,.pointer (some ⟨(p1 1).N,0,none⟩)),(4,.pointer (some ⟨(p1 2).N,0,none⟩)),(5,.int .i64 0),(6,.int .i64 0),(20,.bool false),(28,.bool false),(37,.bool false),(40,.bool false)]) (by kernel_rfl) (fun _ _=>by kernel_rfl) (fun _=>by kernel_rfl) (fun _=>by kernel_rfl) (fun p6=>?_) (fun p6 W6 T hF hK=>?_)
 ·refine ok_L (by kernel_rfl) (by kernel_rfl) (by kernel_rfl) ?_
  refine ok_c (fun W cx=>as_v (rnone_f _ g2 s2 x2 hb)) (by kernel_rfl) ?_
  exact ok_nil
 replace hS:=SymF.fb hS hF [0,1,2] [⟨(p1 0).N,#[.bool g,.string s,.int .i64 x],23,true⟩,⟨(p1 1).N,#[.bool g2,.string s2,.int .i64 x2],23,true⟩,⟨(p1 2).N,#[.bool false,.string ⟨#[]⟩,.int .i64 0],23,true⟩] (by kernel_rfl) (by kernel_rfl)
 replace hG:=hF.gx
 clear hF
 have z6:=hS.fr.size
 refine wp_cond_false (hK.ev 40 (by kernel_rfl) _ (by kernel_rfl)) ?_
 refine wp_skip ?_
 refine then_n ?_
 refine wp_symQ hS hG hK (fun p7=>[.v 42 (.pointer (some ⟨(p1 0).N,2,none⟩)),.l 43 (.int .i64 x) 0 2,.v 44 (.pointer (some ⟨(p1 1).N,2,none⟩)),.l 45 (.int .i64 x2) 1 2,.v 46 (.int .i64 ex),.v 7 (.int .i64 ex)]) (fun p7=>[(2,.pointer (some ⟨(p1 0).N,0,none⟩)),(3,.pointer (some ⟨(p1 1).N,0,none⟩)),(4,.pointer (some ⟨(p1 2).N,0,none⟩)),(5,.int .i64 0),(6,.int .i64 0),(7,.int .i64 ex),(20,.bool false),(28,.bool false),(37,.bool false),(40,.bool false)]) (by kernel_rfl) (fun _ _=>by kernel_rfl) (fun _=>by kernel_rfl) (fun _=>by kernel_rfl) (fun p7=>?_) (fun p7 W7 T hF hK=>?_)
 ·refine ok_v (by kernel_rfl) ?_
  refine ok_L (by kernel_rfl) (by kernel_rfl) (by kernel_rfl) ?_
  refine ok_v (by kernel_rfl) ?_
  refine ok_L (by kernel_rfl) (by kernel_rfl) (by kernel_rfl) ?_
  refine ok_vi ((imin _ _).trans hmin) (by kernel_rfl) ?_
  refine ok_v (by kernel_rfl) ?_
  exact ok_nil
 replace hS:=SymF.fb hS hF [0,1,2] [⟨(p1 0).N,#[.bool g,.string s,.int .i64 x],23,true⟩,⟨(p1 1).N,#[.bool g2,.string s2,.int .i64 x2],23,true⟩,⟨(p1 2).N,#[.bool false,.string ⟨#[]⟩,.int .i64 0],23,true⟩] (by kernel_rfl) (by kernel_rfl)
 replace hG:=hF.gx
 clear hF
 have z7:=hS.fr.size
 refine wp_seq ?_
 refine wp_symQ hS hG hK (fun p8=>[.v 47 (.pointer (some ⟨(p1 0).N,1,none⟩)),.l 48 (.string s) 0 1,.v 49 (.int .i64 (s.size:Int)),.v 50 (.pointer (some ⟨(p1 0).N,2,none⟩)),.l 51 (.int .i64 x) 0 2,.v 52 (.int .i64 ((s.size:Int)+x)),.v 53 (.int .i64 ex),.v 54 (.int .i64 ((s.size:Int)+x - ex)),.v 55 (.bool false),.v 56 (.bool false),.v 57 (.pointer (some ⟨(p1 1).N,1,none⟩)),.l 58 (.string s2) 1 1,.v 59 (.int .i64 (s2.size:Int)),.v 60 (.pointer (some ⟨(p1 1).N,2,none⟩)),.l 61 (.int .i64 x2) 1 2,.v 62 (.int .i64 ((s2.size:Int)+x2)),.v 63 (.int .i64 ex),.v 64 (.int .i64 ((s2.size:Int)+x2 - ex)),.v 65 (.bool false),.v 66 (.bool false)]) (fun p8=>[(2,.pointer (some ⟨(p1 0).N,0,none⟩)),(3,.pointer (some ⟨(p1 1).N,0,none⟩)),(4,.pointer (some ⟨(p1 2).N,0,none⟩)),(5,.int .i64 0),(6,.int .i64 0),(7,.int .i64 ex),(20,.bool false),(28,.bool false),(37,.bool false),(40,.bool false),(66,.bool false)]) (by kernel_rfl) (fun _ _=>by kernel_rfl) (fun _=>by kernel_rfl) (fun _=>by kernel_rfl) (fun p8=>?_) (fun p8 W8 T hF hK=>?_)
 ·refine ok_v (by kernel_rfl) ?_
  refine ok_L (by kernel_rfl) (by kernel_rfl) (by kernel_rfl) ?_
  iterate 2 refine ok_v (by kernel_rfl) ?_
  refine ok_L (by kernel_rfl) (by kernel_rfl) (by kernel_rfl) ?_
  refine ok_vi (wr64 (x:=(s.size:Int)+x) (by omega) (by omega)) (by kernel_rfl) ?_
  refine ok_v (by kernel_rfl) ?_
  refine ok_vi (wr64 (x:=(s.size:Int)+x - ex) (by omega) (by omega)) (by kernel_rfl) ?_
  refine ok_vb (decide_eq_false (show ¬ ((s.size:Int)+x - ex) > 65536 by omega)) (by kernel_rfl) ?_
  iterate 2 refine ok_v (by kernel_rfl) ?_
  refine ok_L (by kernel_rfl) (by kernel_rfl) (by kernel_rfl) ?_
  iterate 2 refine ok_v (by kernel_rfl) ?_
  refine ok_L (by kernel_rfl) (by kernel_rfl) (by kernel_rfl) ?_
  refine ok_vi (wr64 (x:=(s2.size:Int)+x2) (by omega) (by omega)) (by kernel_rfl) ?_
  refine ok_v (by kernel_rfl) ?_
  refine ok_vi (wr64 (x:=(s2.size:Int)+x2 - ex) (by omega) (by omega)) (by kernel_rfl) ?_
  refine ok_vb (decide_eq_false (show ¬ ((s2.size:Int)+x2 - ex) > 65536 by omega)) (by kernel_rfl) ?_
  refine ok_v (by kernel_rfl) ?_
  exact ok_nil
 replace hS:=SymF.fb hS hF [0,1,2] [⟨(p1 0).N,#[.bool g,.string s,.int .i64 x],23,true⟩,⟨(p1 1).N,#[.bool g2,.string s2,.int .i64 x2],23,true⟩,⟨(p1 2).N,#[.bool false,.string ⟨#[]⟩,.int .i64 0],23,true⟩] (by kernel_rfl) (by kernel_rfl)
 replace hG:=hF.gx
 clear hF
 have z8:=hS.fr.size
 refine wp_cond_false (hK.ev 66 (by kernel_rfl) _ (by kernel_rfl)) ?_
 refine wp_skip ?_
 refine then_n ?_
 refine wp_symQ hS hG hK (fun p9=>[.v 68 (.pointer (some ⟨(p1 0).N,1,none⟩)),.l 69 (.string s) 0 1,.v 70 (.pointer (some ⟨(p1 0).N,2,none⟩)),.l 71 (.int .i64 x) 0 2,.v 72 (.int .i64 ex),.v 73 (.int .i64 (o1:Int)),.c (some 74) (cV (.string (noS o1))),.v 75 (.string (s ++ noS o1)),.c (some 76) (cN W8.heap.size M),.v 77 (.pointer (some ⟨(p1 1).N,1,none⟩)),.l 78 (.string s2) 1 1,.v 79 (.pointer (some ⟨(p1 1).N,2,none⟩)),.l 80 (.int .i64 x2) 1 2,.v 81 (.int .i64 ex),.v 82 (.int .i64 (o2:Int)),.c (some 83) (cV (.string (noS o2))),.v 84 (.string (s2 ++ noS o2)),.c (some 85) (cN W8.heap.size N),.n 8 #[.slice none 0 0] 60,.n 9 #[.slice none 0 0] 60,.p 1018 0 [.slice (p9 8).A (p9 8).N (p9 8).C],.p 1019 0 [.slice (p9 17).A (p9 17).N (p9 17).C]]) (fun p9=>[(2,.pointer (some ⟨(p1 0).N,0,none⟩)),(3,.pointer (some ⟨(p1 1).N,0,none⟩)),(4,.pointer (some ⟨(p1 2).N,0,none⟩)),(5,.int .i64 0),(6,.int .i64 0),(7,.int .i64 ex),(8,.pointer (some ⟨(p9 18).N,0,none⟩)),(9,.pointer (some ⟨(p9 19).N,0,none⟩)),(20,.bool false),(28,.bool false),(37,.bool false),(40,.bool false),(66,.bool false)]) (by kernel_rfl) (fun _ _=>by kernel_rfl) (fun _=>by kernel_rfl) (fun _=>by kernel_rfl) (fun p9=>?_) (fun p9 W9 T hF hK=>?_)
 ·refine ok_v (by kernel_rfl) ?_
  refine ok_L (by kernel_rfl) (by kernel_rfl) (by kernel_rfl) ?_
  refine ok_v (by kernel_rfl) ?_
  refine ok_L (by kernel_rfl) (by kernel_rfl) (by kernel_rfl) ?_
  refine ok_v (by kernel_rfl) ?_
  refine ok_vi ((wr64 (x:=x - ex) (by omega) (by omega)).trans hz1) (by kernel_rfl) ?_
  refine ok_c (fun W cx=>as_v (rnoughts_any o1 (by omega) _)) (by kernel_rfl) ?_
  refine ok_vr (hcat1) (by kernel_rfl) ?_
  refine ok_c (fun W cx=>as_n cx.hb (unhide H1 _)) (by kernel_rfl) ?_
  refine ok_v (by kernel_rfl) ?_
  refine ok_L (by kernel_rfl) (by kernel_rfl) (by kernel_rfl) ?_
  refine ok_v (by kernel_rfl) ?_
  refine ok_L (by kernel_rfl) (by kernel_rfl) (by kernel_rfl) ?_
  refine ok_v (by kernel_rfl) ?_
  refine ok_vi ((wr64 (x:=x2 - ex) (by omega) (by omega)).trans hz2) (by kernel_rfl) ?_
  refine ok_c (fun W cx=>as_v (rnoughts_any o2 (by omega) _)) (by kernel_rfl) ?_
  refine ok_vr (hcat2) (by kernel_rfl) ?_
  refine ok_c (fun W cx=>as_n cx.hb (unhide H2 _)) (by kernel_rfl) ?_
  iterate 2 refine ok_n (fun _=>by kernel_rfl) ?_
  iterate 2 refine ok_P (by kernel_rfl) (by kernel_rfl) (by kernel_rfl) ?_
  exact ok_nil
 replace hS:=SymF.fb hS hF [0,1,2,1018,1019] [⟨(p1 0).N,#[.bool g,.string s,.int .i64 x],23,true⟩,⟨(p1 1).N,#[.bool g2,.string s2,.int .i64 x2],23,true⟩,⟨(p1 2).N,#[.bool false,.string ⟨#[]⟩,.int .i64 0],23,true⟩,⟨(p9 18).N,#[.slice (p9 8).A (p9 8).N (p9 8).C],60,true⟩,⟨(p9 19).N,#[.slice (p9 17).A (p9 17).N (p9 17).C],60,true⟩] (by kernel_rfl) (by kernel_rfl)
 replace hG:GsAt (gM W8.heap.size (p9 8).A (p9 8).N (p9 8).C M :: gM W8.heap.size (p9 17).A (p9 17).N (p9 17).C N :: _) W9:=⟨hF.fx 8,hF.fx 17,hF.gx⟩
 clear hF
 have z9:=hS.fr.size
 refine wp_symQ hS hG hK (fun p10=>[.v 86 (.pointer (some ⟨(p1 0).N,0,none⟩)),.l 87 (.bool g) 0 0,.v 10 (.bool g)]) (fun p10=>[(2,.pointer (some ⟨(p1 0).N,0,none⟩)),(3,.pointer (some ⟨(p1 1).N,0,none⟩)),(4,.pointer (some ⟨(p1 2).N,0,none⟩)),(5,.int .i64 0),(6,.int .i64 0),(7,.int .i64 ex),(8,.pointer (some ⟨(p9 18).N,0,none⟩)),(9,.pointer (some ⟨(p9 19).N,0,none⟩)),(10,.bool g),(20,.bool false),(28,.bool false),(37,.bool false),(40,.bool false),(66,.bool false)]) (by kernel_rfl) (fun _ _=>by kernel_rfl) (fun _=>by kernel_rfl) (fun _=>by kernel_rfl) (fun p10=>?_) (fun p10 W10 T hF hK=>?_)
 ·refine ok_v (by kernel_rfl) ?_
  refine ok_L (by kernel_rfl) (by kernel_rfl) (by kernel_rfl) ?_
  refine ok_v (by kernel_rfl) ?_
  exact ok_nil
 replace hS:=SymF.fb hS hF [0,1,2,3,4] [⟨(p1 0).N,#[.bool g,.string s,.int .i64 x],23,true⟩,⟨(p1 1).N,#[.bool g2,.string s2,.int .i64 x2],23,true⟩,⟨(p1 2).N,#[.bool false,.string ⟨#[]⟩,.int .i64 0],23,true⟩,⟨(p9 18).N,#[.slice (p9 8).A (p9 8).N (p9 8).C],60,true⟩,⟨(p9 19).N,#[.slice (p9 17).A (p9 17).N (p9 17).C],60,true⟩] (by kernel_rfl) (by kernel_rfl)
 replace hG:=hF.gx
 clear hF
 have z10:=hS.fr.size
 refine wp_symQ hS hG hK (fun p11=>[.n 11 #[.slice none 0 0] 60]) (fun p11=>[(2,.pointer (some ⟨(p1 0).N,0,none⟩)),(3,.pointer (some ⟨(p1 1).N,0,none⟩)),(4,.pointer (some ⟨(p1 2).N,0,none⟩)),(5,.int .i64 0),(6,.int .i64 0),(7,.int .i64 ex),(8,.pointer (some ⟨(p9 18).N,0,none⟩)),(9,.pointer (some ⟨(p9 19).N,0,none⟩)),(10,.bool g),(11,.pointer (some ⟨(p11 0).N,0,none⟩)),(20,.bool false),(28,.bool false),(37,.bool false),(40,.bool false),(66,.bool false)]) (by kernel_rfl) (fun _ _=>by kernel_rfl) (fun _=>by kernel_rfl) (fun _=>by kernel_rfl) (fun p11=>?_) (fun p11 W11 T hF hK=>?_)
 ·refine ok_n (fun _=>by kernel_rfl) ?_
  exact ok_nil
 replace hS:=SymF.fb hS hF [0,1,2,3,4,1000] [⟨(p1 0).N,#[.bool g,.string s,.int .i64 x],23,true⟩,⟨(p1 1).N,#[.bool g2,.string s2,.int .i64 x2],23,true⟩,⟨(p1 2).N,#[.bool false,.string ⟨#[]⟩,.int .i64 0],23,true⟩,⟨(p9 18).N,#[.slice (p9 8).A (p9 8).N (p9 8).C],60,true⟩,⟨(p9 19).N,#[.slice (p9 17).A (p9 17).N (p9 17).C],60,true⟩,⟨(p11 0).N,#[.slice none 0 0],60,true⟩] (by kernel_rfl) (by kernel_rfl)
 replace hG:=hF.gx
 clear hF
 have z11:=hS.fr.size
 refine wp_symQ hS hG hK (fun p12=>[.l 89 (.agg #[.slice (p9 8).A (p9 8).N (p9 8).C]) 3 0,.l 90 (.agg #[.slice (p9 17).A (p9 17).N (p9 17).C]) 4 0,.c (some 91) (cV (.tuple #[.int .i64 (-1),.int .i64 0])),.v 88 (.tuple #[.int .i64 (-1),.int .i64 0]),.v 92 (.int .i64 (-1)),.v 93 (.int .i64 0),.v 12 (.int .i64 (-1)),.v 13 (.int .i64 0)]) (fun p12=>[(2,.pointer (some ⟨(p1 0).N,0,none⟩)),(3,.pointer (some ⟨(p1 1).N,0,none⟩)),(4,.pointer (some ⟨(p1 2).N,0,none⟩)),(5,.int .i64 0),(6,.int .i64 0),(7,.int .i64 ex),(8,.pointer (some ⟨(p9 18).N,0,none⟩)),(9,.pointer (some ⟨(p9 19).N,0,none⟩)),(10,.bool g),(11,.pointer (some ⟨(p11 0).N,0,none⟩)),(12,.int .i64 (-1)),(20,.bool false),(28,.bool false),(37,.bool false),(40,.bool false),(66,.bool false)]) (by kernel_rfl) (fun _ _=>by kernel_rfl) (fun _=>by kernel_rfl) (fun _=>by kernel_rfl) (fun p12=>?_) (fun p12 W12 T hF hK=>?_)
 ·iterate 2 refine ok_L (by kernel_rfl) (by kernel_rfl) (by kernel_rfl) ?_
  refine ok_c (fun W cx=>as_v (unhide HK _ _ _ (p9 8).C _ _ (p9 17).C (Mine.num cx.G.1) (Mine.num cx.G.2.1))) (by kernel_rfl) ?_
  iterate 5 refine ok_v (by kernel_rfl) ?_
  exact ok_nil
 replace hS:=SymF.fb hS hF [0,1,2,3,4,5] [⟨(p1 0).N,#[.bool g,.string s,.int .i64 x],23,true⟩,⟨(p1 1).N,#[.bool g2,.string s2,.int .i64 x2],23,true⟩,⟨(p1 2).N,#[.bool false,.string ⟨#[]⟩,.int .i64 0],23,true⟩,⟨(p9 18).N,#[.slice (p9 8).A (p9 8).N (p9 8).C],60,true⟩,⟨(p9 19).N,#[.slice (p9 17).A (p9 17).N (p9 17).C],60,true⟩,⟨(p11 0).N,#[.slice none 0 0],60,true⟩] (by kernel_rfl) (by kernel_rfl)
 replace hG:=hF.gx
 clear hF
 have z12:=hS.fr.size
 refine wp_seq ?_
 refine wp_block ?_
 refine wp_symQ hS hG hK (fun p13=>[.v 104 (.pointer (some ⟨(p1 0).N,0,none⟩)),.l 105 (.bool g) 0 0,.v 106 (.pointer (some ⟨(p1 1).N,0,none⟩)),.l 107 (.bool g2) 1 0,.v 108 (.bool false),.v 103 (.bool false)]) (fun p13=>[(2,.pointer (some ⟨(p1 0).N,0,none⟩)),(3,.pointer (some ⟨(p1 1).N,0,none⟩)),(4,.pointer (some ⟨(p1 2).N,0,none⟩)),(5,.int .i64 0),(6,.int .i64 0),(7,.int .i64 ex),(8,.pointer (some ⟨(p9 18).N,0,none⟩)),(9,.pointer (some ⟨(p9 19).N,0,none⟩)),(10,.bool g),(11,.pointer (some ⟨(p11 0).N,0,none⟩)),(12,.int .i64 (-1)),(20,.bool false),(28,.bool false),(37,.bool false),(40,.bool false),(66,.bool false),(103,.bool false)]) (by kernel_rfl) (fun _ _=>by kernel_rfl) (fun _=>by kernel_rfl) (fun _=>by kernel_rfl) (fun p13=>?_) (fun p13 W13 T hF hK=>?_)
 ·refine ok_v (by kernel_rfl) ?_
  refine ok_L (by kernel_rfl) (by kernel_rfl) (by kernel_rfl) ?_
  refine ok_v (by kernel_rfl) ?_
  refine ok_L (by kernel_rfl) (by kernel_rfl) (by kernel_rfl) ?_
  refine ok_vb (hg) (by kernel_rfl) ?_
  refine ok_v (by kernel_rfl) ?_
  exact ok_nil
 replace hS:=SymF.fb hS hF [0,1,2,3,4,5] [⟨(p1 0).N,#[.bool g,.string s,.int .i64 x],23,true⟩,⟨(p1 1).N,#[.bool g2,.string s2,.int .i64 x2],23,true⟩,⟨(p1 2).N,#[.bool false,.string ⟨#[]⟩,.int .i64 0],23,true⟩,⟨(p9 18).N,#[.slice (p9 8).A (p9 8).N (p9 8).C],60,true⟩,⟨(p9 19).N,#[.slice (p9 17).A (p9 17).N (p9 17).C],60,true⟩,⟨(p11 0).N,#[.slice none 0 0],60,true⟩] (by kernel_rfl) (by kernel_rfl)
 replace hG:=hF.gx
 clear hF
 have z13:=hS.fr.size
 refine wp_cond_false (hK.ev 103 (by kernel_rfl) _ (by kernel_rfl)) ?_
 refine wp_symQ hS hG hK (fun p14=>[.v 116 (.int .i64 (-1)),.v 117 (.bool false),.v 115 (.bool false)]) (fun p14=>[(2,.pointer (some ⟨(p1 0).N,0,none⟩)),(3,.pointer (some ⟨(p1 1).N,0,none⟩)),(4,.pointer (some ⟨(p1 2).N,0,none⟩)),(5,.int .i64 0),(6,.int .i64 0),(7,.int .i64 ex),(8,.pointer (some ⟨(p9 18).N,0,none⟩)),(9,.pointer (some ⟨(p9 19).N,0,none⟩)),(10,.bool g),(11,.pointer (some ⟨(p11 0).N,0,none⟩)),(12,.int .i64 (-1)),(20,.bool false),(28,.bool false),(37,.bool false),(40,.bool false),(66,.bool false),(103,.bool false),(115,.bool false)]) (by kernel_rfl) (fun _ _=>by kernel_rfl) (fun _=>by kernel_rfl) (fun _=>by kernel_rfl) (fun p14=>?_) (fun p14 W14 T hF hK=>?_)
 ·iterate 3 refine ok_v (by kernel_rfl) ?_
  exact ok_nil
 replace hS:=SymF.fb hS hF [0,1,2,3,4,5] [⟨(p1 0).N,#[.bool g,.string s,.int .i64 x],23,true⟩,⟨(p1 1).N,#[.bool g2,.string s2,.int .i64 x2],23,true⟩,⟨(p1 2).N,#[.bool false,.string ⟨#[]⟩,.int .i64 0],23,true⟩,⟨(p9 18).N,#[.slice (p9 8).A (p9 8).N (p9 8).C],60,true⟩,⟨(p9 19).N,#[.slice (p9 17).A (p9 17).N (p9 17).C],60,true⟩,⟨(p11 0).N,#[.slice none 0 0],60,true⟩] (by kernel_rfl) (by kernel_rfl)
 replace hG:=hF.gx
 clear hF
 have z14:=hS.fr.size
 refine wp_cond_false (hK.ev 115 (by kernel_rfl) _ (by kernel_rfl)) ?_
 refine wp_symQ hS hG hK (fun p15=>[.v 119 (.int .i64 (-1)),.v 120 (.bool false),.v 118 (.bool false)]) (fun p15=>[(2,.pointer (some ⟨(p1 0).N,0,none⟩)),(3,.pointer (some ⟨(p1 1).N,0,none⟩)),(4,.pointer (some ⟨(p1 2).N,0,none⟩)),(5,.int .i64 0),(6,.int .i64 0),(7,.int .i64 ex),(8,.pointer (some ⟨(p9 18).N,0,none⟩)),(9,.pointer (some ⟨(p9 19).N,0,none⟩)),(10,.bool g),(11,.pointer (some ⟨(p11 0).N,0,none⟩)),(20,.bool false),(28,.bool false),(37,.bool false),(40,.bool false),(66,.bool false),(103,.bool false),(115,.bool false),(118,.bool false)]) (by kernel_rfl) (fun _ _=>by kernel_rfl) (fun _=>by kernel_rfl) (fun _=>by kernel_rfl) (fun p15=>?_) (fun p15 W15 T hF hK=>?_)
 ·iterate 3 refine ok_v (by kernel_rfl) ?_
  exact ok_nil
 replace hS:=SymF.fb hS hF [0,1,2,3,4,5] [⟨(p1 0).N,#[.bool g,.string s,.int .i64 x],23,true⟩,⟨(p1 1).N,#[.bool g2,.string s2,.int .i64 x2],23,true⟩,⟨(p1 2).N,#[.bool false,.string ⟨#[]⟩,.int .i64 0],23,true⟩,⟨(p9 18).N,#[.slice (p9 8).A (p9 8).N (p9 8).C],60,true⟩,⟨(p9 19).N,#[.slice (p9 17).A (p9 17).N (p9 17).C],60,true⟩,⟨(p11 0).N,#[.slice none 0 0],60,true⟩] (by kernel_rfl) (by kernel_rfl)
 replace hG:=hF.gx
 clear hF
 have z15:=hS.fr.size
 refine wp_cond_false (hK.ev 118 (by kernel_rfl) _ (by kernel_rfl)) ?_
 refine wp_symQ hS hG hK (fun p16=>[.v 94 (.pointer (some ⟨(p1 1).N,0,none⟩)),.l 95 (.bool g2) 1 0,.v 10 (.bool g2)]) (fun p16=>[(2,.pointer (some ⟨(p1 0).N,0,none⟩)),(3,.pointer (some ⟨(p1 1).N,0,none⟩)),(4,.pointer (some ⟨(p1 2).N,0,none⟩)),(5,.int .i64 0),(6,.int .i64 0),(7,.int .i64 ex),(8,.pointer (some ⟨(p9 18).N,0,none⟩)),(9,.pointer (some ⟨(p9 19).N,0,none⟩)),(10,.bool g2),(11,.pointer (some ⟨(p11 0).N,0,none⟩)),(20,.bool false),(28,.bool false),(37,.bool false),(40,.bool false),(66,.bool false),(103,.bool false),(115,.bool false),(118,.bool false)]) (by kernel_rfl) (fun _ _=>by kernel_rfl) (fun _=>by kernel_rfl) (fun _=>by kernel_rfl) (fun p16=>?_) (fun p16 W16 T hF hK=>?_)
 ·refine ok_v (by kernel_rfl) ?_
  refine ok_L (by kernel_rfl) (by kernel_rfl) (by kernel_rfl) ?_
  refine ok_v (by kernel_rfl) ?_
  exact ok_nil
 replace hS:=SymF.fb hS hF [0,1,2,3,4,5] [⟨(p1 0).N,#[.bool g,.string s,.int .i64 x],23,true⟩,⟨(p1 1).N,#[.bool g2,.string s2,.int .i64 x2],23,true⟩,⟨(p1 2).N,#[.bool false,.string ⟨#[]⟩,.int .i64 0],23,true⟩,⟨(p9 18).N,#[.slice (p9 8).A (p9 8).N (p9 8).C],60,true⟩,⟨(p9 19).N,#[.slice (p9 17).A (p9 17).N (p9 17).C],60,true⟩,⟨(p11 0).N,#[.slice none 0 0],60,true⟩] (by kernel_rfl) (by kernel_rfl)
 replace hG:=hF.gx
 clear hF
 have z16:=hS.fr.size
 refine wp_symG hS hG hK (fun p17=>[.l 97 (.agg #[.slice (p9 17).A (p9 17).N (p9 17).C]) 4 0,.l 98 (.agg #[.slice (p9 8).A (p9 8).N (p9 8).C]) 3 0,.c (some 99) (cG W16.heap.size (N - M) fun x9=>.tuple #[.agg #[x9],.bool true,.int .i64 0]),.v 96 (.tuple #[.agg #[.slice (p17 2).A (p17 2).N (p17 2).C],.bool true,.int .i64 0]),.v 100 (.agg #[.slice (p17 2).A (p17 2).N (p17 2).C]),.v 101 (.bool true),.v 102 (.int .i64 0),.p 5 0 [.slice (p17 2).A (p17 2).N (p17 2).C]]) (fun p17=>[(2,.pointer (some ⟨(p1 0).N,0,none⟩)),(3,.pointer (some ⟨(p1 1).N,0,none⟩)),(4,.pointer (some ⟨(p1 2).N,0,none⟩)),(5,.int .i64 0),(6,.int .i64 0),(7,.int .i64 ex),(8,.pointer (some ⟨(p9 18).N,0,none⟩)),(9,.pointer (some ⟨(p9 19).N,0,none⟩)),(10,.bool g2),(11,.pointer (some ⟨(p11 0).N,0,none⟩)),(20,.bool false),(28,.bool false),(37,.bool false),(40,.bool false),(66,.bool false),(103,.bool false),(115,.bool false),(118,.bool false)]) (by kernel_rfl) (fun _ _=>by kernel_rfl) (fun _=>by kernel_rfl) (fun _=>by kernel_rfl) (fun p17=>?_) (fun p17 W17 T hF hK=>?_)
 ·iterate 2 refine ok_L (by kernel_rfl) (by kernel_rfl) (by kernel_rfl) ?_
  refine ok_c (fun W cx=>as_g cx.hb (unhide HA _ _ _ (p9 17).C _ _ (p9 8).C (Mine.num cx.G.2.1) (Mine.num cx.G.1))) (by kernel_rfl) ?_
  iterate 4 refine ok_v (by kernel_rfl) ?_
  refine ok_P (by kernel_rfl) (by kernel_rfl) (by kernel_rfl) ?_
  exact ok_nil
 replace hS:=SymF.fb hS hF [0,1,2,3,4,5] [⟨(p1 0).N,#[.bool g,.string s,.int .i64 x],23,true⟩,⟨(p1 1).N,#[.bool g2,.string s2,.int .i64 x2],23,true⟩,⟨(p1 2).N,#[.bool false,.string ⟨#[]⟩,.int .i64 0],23,true⟩,⟨(p9 18).N,#[.slice (p9 8).A (p9 8).N (p9 8).C],60,true⟩,⟨(p9 19).N,#[.slice (p9 17).A (p9 17).N (p9 17).C],60,true⟩,⟨(p11 0).N,#[.slice (p17 2).A (p17 2).N (p17 2).C],60,true⟩] (by kernel_rfl) (by kernel_rfl)
 replace hG:GsAt (gM W16.heap.size (p17 2).A (p17 2).N (p17 2).C (N - M) :: _) W17:=⟨hF.fx 2,hF.gx⟩
 clear hF
 have z17:=hS.fr.size
 refine inb_n ?_
 refine then_n ?_
 refine wp_symQ hS hG hK (fun p18=>[.l 129 (.agg #[.slice (p17 2).A (p17 2).N (p17 2).C]) 5 0,.c (some 130) (cV (.tuple #[.string t,.int .i64 0])),.v 128 (.tuple #[.string t,.int .i64 0]),.v 131 (.string t),.v 132 (.int .i64 0),.v 14 (.string t),.v 15 (.int .i64 0)]) (fun p18=>[(2,.pointer (some ⟨(p1 0).N,0,none⟩)),(3,.pointer (some ⟨(p1 1).N,0,none⟩)),(4,.pointer (some ⟨(p1 2).N,0,none⟩)),(5,.int .i64 0),(6,.int .i64 0),(7,.int .i64 ex),(8,.pointer (some ⟨(p9 18).N,0,none⟩)),(9,.pointer (some ⟨(p9 19).N,0,none⟩)),(10,.bool g2),(11,.pointer (some ⟨(p11 0).N,0,none⟩)),(14,.string t),(20,.bool false),(28,.bool false),(37,.bool false),(40,.bool false),(66,.bool false),(103,.bool false),(115,.bool false),(118,.bool false)]) (by kernel_rfl) (fun _ _=>by kernel_rfl) (fun _=>by kernel_rfl) (fun _=>by kernel_rfl) (fun p18=>?_) (fun p18 W18 T hF hK=>?_)
 ·refine ok_L (by kernel_rfl) (by kernel_rfl) (by kernel_rfl) ?_
  refine ok_c (fun W cx=>as_v (unhide HT _ _ _ (p17 2).C (Mine.num cx.G.1))) (by kernel_rfl) ?_
  iterate 5 refine ok_v (by kernel_rfl) ?_
  exact ok_nil
 replace hS:=SymF.fb hS hF [0,1,2,3,4,5] [⟨(p1 0).N,#[.bool g,.string s,.int .i64 x],23,true⟩,⟨(p1 1).N,#[.bool g2,.string s2,.int .i64 x2],23,true⟩,⟨(p1 2).N,#[.bool false,.string ⟨#[]⟩,.int .i64 0],23,true⟩,⟨(p9 18).N,#[.slice (p9 8).A (p9 8).N (p9 8).C],60,true⟩,⟨(p9 19).N,#[.slice (p9 17).A (p9 17).N (p9 17).C],60,true⟩,⟨(p11 0).N,#[.slice (p17 2).A (p17 2).N (p17 2).C],60,true⟩] (by kernel_rfl) (by kernel_rfl)
 replace hG:=hF.gx
 clear hF
 have z18:=hS.fr.size
 refine wp_symQ hS hG hK (fun p19=>[.v 133 (.bool g2),.v 134 (.string t),.v 135 (.int .i64 ex),.c (some 136) (cV (.tuple #[.agg #[.bool g3,.string s3,.int .i64 x3],.int .i64 e3])),.v 137 (.agg #[.bool g3,.string s3,.int .i64 x3]),.v 138 (.int .i64 e3),.p 2 0 [.bool g3,.string s3,.int .i64 x3],.v 5 (.int .i64 e3)]) (fun p19=>[(2,.pointer (some ⟨(p1 0).N,0,none⟩)),(3,.pointer (some ⟨(p1 1).N,0,none⟩)),(4,.pointer (some ⟨(p1 2).N,0,none⟩)),(5,.int .i64 e3),(6,.int .i64 0),(8,.pointer (some ⟨(p9 18).N,0,none⟩)),(9,.pointer (some ⟨(p9 19).N,0,none⟩)),(11,.pointer (some ⟨(p11 0).N,0,none⟩)),(20,.bool false),(28,.bool false),(37,.bool false),(40,.bool false),(66,.bool false),(103,.bool false),(115,.bool false),(118,.bool false)]) (by kernel_rfl) (fun _ _=>by kernel_rfl) (fun _=>by kernel_rfl) (fun _=>by kernel_rfl) (fun p19=>?_) (fun p19 W19 T hF hK=>?_)
 ·iterate 3 refine ok_v (by kernel_rfl) ?_
  refine ok_c (fun W cx=>as_v (unhide HM _)) (by kernel_rfl) ?_
  iterate 2 refine ok_v (by kernel_rfl) ?_
  refine ok_P (by kernel_rfl) (by kernel_rfl) (by kernel_rfl) ?_
  refine ok_v (by kernel_rfl) ?_
  exact ok_nil
 replace hS:=SymF.fb hS hF [0,1,2,3,4,5] [⟨(p1 0).N,#[.bool g,.string s,.int .i64 x],23,true⟩,⟨(p1 1).N,#[.bool g2,.string s2,.int .i64 x2],23,true⟩,⟨(p1 2).N,#[.bool g3,.string s3,.int .i64 x3],23,true⟩,⟨(p9 18).N,#[.slice (p9 8).A (p9 8).N (p9 8).C],60,true⟩,⟨(p9 19).N,#[.slice (p9 17).A (p9 17).N (p9 17).C],60,true⟩,⟨(p11 0).N,#[.slice (p17 2).A (p17 2).N (p17 2).C],60,true⟩] (by kernel_rfl) (by kernel_rfl)
 replace hG:=hF.gx
 clear hF
 have z19:=hS.fr.size
 refine wp_ret ?_
 exact sym_end hS hK (.tuple #[.agg #[.bool g3,.string s3,.int .i64 x3],.int .i64 e3]) [(2,0,3)] [.bool g3,.string s3,.int .i64 x3] (by kernel_rfl) (by kernel_rfl) ⟨rfl,hS.fr⟩
end Go.Proofs.Ytpaoacehbomdmaa
