/- Of what DecNearRow stands on: DcNeaV. -/
import Derived.Test.YtbblodioaedckaaGreatPbc
import Derived.Test.YtbblodioaedckaaGreatPbh
namespace Go.Proofs.YtbblodioaedckaaGreat
open Go.RowKit
set_option maxHeartbeats 2000000
set_option maxRecDepth 20000
theorem nrl_c (w:World) (g:Bool) (s:ByteArray) (x:Int) (n:Int) (md:Nat) (HA:Hid (∀ W:World,Calls Tryz.prog 6 #[] W fun e W'=>e = .returned (.bool true)∧Below W.heap.size W W')) (HC:Hid (∀ W:World,Calls Tryz.prog 7 #[.agg #[.bool g,.string s,.int .i64 x],.int .i64 3000,.int .i64 3000] W fun e W'=>e = .returned (.bool false)∧Below W.heap.size W W')) :
  Calls Tryz.prog 5 #[.agg #[.bool g,.string s,.int .i64 x],.int .i64 n,.int .u8 (md:Int)] w fun en w'=>en = .returned (.bool true)∧Below w.heap.size w w':=by
 refine calls_sym Tryz.func5 rfl (by kernel_rfl) fun T hK=>?_
 replace hK:Kn T _ [(0,.agg #[.bool g,.string s,.int .i64 x]),(1,.int .i64 n),(2,.int .u8 (md:Int))]:=hK
 have hS:=Fb.begin w
 have hG:GsAt [] w:=trivial
 refine wp_symQ hS hG hK (fun p1=>[.n 3 #[.bool g,.string s,.int .i64 x] 23,.v 6 (.bool false)]) (fun p1=>[(1,.int .i64 n),(2,.int .u8 (md:Int)),(3,.pointer (some ⟨(p1 0).N,0,none⟩)),(6,.bool false)]) (by kernel_rfl) (fun _ _=>by kernel_rfl) (fun _=>by kernel_rfl) (fun _=>by kernel_rfl) (fun p1=>?_) (fun p1 W1 T hF hK=>?_)
 ·refine ok_n (fun _=>by kernel_rfl) ?_
  refine ok_v (by kernel_rfl) ?_
  exact ok_nil
 replace hS:=SymF.fb hS hF [1000] [⟨(p1 0).N,#[.bool g,.string s,.int .i64 x],23,true⟩] (by kernel_rfl) (by kernel_rfl)
 replace hG:=hF.gx
 clear hF
 have z1:=hS.fr.size
 refine wp_symQ hS hG hK (fun p2=>[.c (some 28) (cV (.bool true)),.v 7 (.bool true)]) (fun p2=>[(1,.int .i64 n),(2,.int .u8 (md:Int)),(3,.pointer (some ⟨(p1 0).N,0,none⟩)),(6,.bool false),(7,.bool true)]) (by kernel_rfl) (fun _ _=>by kernel_rfl) (fun _=>by kernel_rfl) (fun _=>by kernel_rfl) (fun p2=>?_) (fun p2 W2 T hF hK=>?_)
 ·refine ok_c (fun W cx=>as_v (unhide HA _)) (by kernel_rfl) ?_
  refine ok_v (by kernel_rfl) ?_
  exact ok_nil
 replace hS:=SymF.fb hS hF [0] [⟨(p1 0).N,#[.bool g,.string s,.int .i64 x],23,true⟩] (by kernel_rfl) (by kernel_rfl)
 replace hG:=hF.gx
 clear hF
 have z2:=hS.fr.size
 refine wp_seq ?_
 refine wp_symQ hS hG hK (fun p3=>[.l 29 (.agg #[.bool g,.string s,.int .i64 x]) 0 0,.c (some 30) (cV (.bool false)),.v 31 (.bool true),.v 32 (.bool true),.k (some 33),.k (some 34),.v 35 (.bool true),.v 36 (.bool true),.k (some 37),.k (some 38),.v 39 (.bool true),.v 40 (.bool true),.k (some 41),.k (some 42),.v 43 (.bool true)]) (fun p3=>[(1,.int .i64 n),(2,.int .u8 (md:Int)),(3,.pointer (some ⟨(p1 0).N,0,none⟩)),(6,.bool false),(7,.bool true),(43,.bool true)]) (by kernel_rfl) (fun _ _=>by kernel_rfl) (fun _=>by kernel_rfl) (fun _=>by kernel_rfl) (fun p3=>?_) (fun p3 W3 T hF hK=>?_)
 ·refine ok_L (by kernel_rfl) (by kernel_rfl) (by kernel_rfl) ?_
  refine ok_c (fun W cx=>as_v (unhide HC _)) (by kernel_rfl) ?_
  iterate 2 refine ok_v (by kernel_rfl) ?_
  iterate 2 refine ok_K (by kernel_rfl) ?_
  iterate 2 refine ok_v (by kernel_rfl) ?_
  iterate 2 refine ok_K (by kernel_rfl) ?_
  iterate 2 refine ok_v (by kernel_rfl) ?_
  iterate 2 refine ok_K (by kernel_rfl) ?_
  refine ok_v (by kernel_rfl) ?_
  exact ok_nil
 replace hS:=SymF.fb hS hF [0] [⟨(p1 0).N,#[.bool g,.string s,.int .i64 x],23,true⟩] (by kernel_rfl) (by kernel_rfl)
 replace hG:=hF.gx
 clear hF
 have z3:=hS.fr.size
 refine wp_cond_true (hK.ev 43 (by kernel_rfl) _ (by kernel_rfl)) ?_
 refine wp_symQ hS hG hK (fun p4=>[.v 44 (.bool true),.v 6 (.bool true)]) (fun p4=>[(1,.int .i64 n),(2,.int .u8 (md:Int)),(3,.pointer (some ⟨(p1 0).N,0,none⟩)),(6,.bool true),(7,.bool true),(43,.bool true)]) (by kernel_rfl) (fun _ _=>by kernel_rfl) (fun _=>by kernel_rfl) (fun _=>by kernel_rfl) (fun p4=>?_) (fun p4 W4 T hF hK=>?_)
 ·iterate 2 refine ok_v (by kernel_rfl) ?_
  exact ok_nil
 replace hS:=SymF.fb hS hF [0] [⟨(p1 0).N,#[.bool g,.string s,.int .i64 x],23,true⟩] (by kernel_rfl) (by kernel_rfl)
 replace hG:=hF.gx
 clear hF
 have z4:=hS.fr.size
 refine wp_ret ?_
 refine then_r ?_
 exact sym_end hS hK (.bool true) [] [] (by kernel_rfl) (by kernel_rfl) ⟨rfl,hS.fr⟩
theorem nrl_l (w:World) (g:Bool) (s:ByteArray) (x:Int) (n:Int) (md:Nat) (HA:Hid (∀ W:World,Calls Tryz.prog 6 #[] W fun e W'=>e = .returned (.bool true)∧Below W.heap.size W W')) (HC:Hid (∀ W:World,Calls Tryz.prog 7 #[.agg #[.bool g,.string s,.int .i64 x],.int .i64 3000,.int .i64 3000] W fun e W'=>e = .returned (.bool true)∧Below W.heap.size W W')) (h1:n < 1) :
  Calls Tryz.prog 5 #[.agg #[.bool g,.string s,.int .i64 x],.int .i64 n,.int .u8 (md:Int)] w fun en w'=>en = .returned (.bool true)∧Below w.heap.size w w':=by
 refine calls_sym Tryz.func5 rfl (by kernel_rfl) fun T hK=>?_
 replace hK:Kn T _ [(0,.agg #[.bool g,.string s,.int .i64 x]),(1,.int .i64 n),(2,.int .u8 (md:Int))]:=hK
 have hS:=Fb.begin w
 have hG:GsAt [] w:=trivial
 refine wp_symQ hS hG hK (fun p1=>[.n 3 #[.bool g,.string s,.int .i64 x] 23,.v 6 (.bool false)]) (fun p1=>[(1,.int .i64 n),(2,.int .u8 (md:Int)),(3,.pointer (some ⟨(p1 0).N,0,none⟩)),(6,.bool false)]) (by kernel_rfl) (fun _ _=>by kernel_rfl) (fun _=>by kernel_rfl) (fun _=>by kernel_rfl) (fun p1=>?_) (fun p1 W1 T hF hK=>?_)
 ·refine ok_n (fun _=>by kernel_rfl) ?_
  refine ok_v (by kernel_rfl) ?_
  exact ok_nil
 replace hS:=SymF.fb hS hF [1000] [⟨(p1 0).N,#[.bool g,.string s,.int .i64 x],23,true⟩] (by kernel_rfl) (by kernel_rfl)
 replace hG:=hF.gx
 clear hF
 have z1:=hS.fr.size
 refine wp_symQ hS hG hK (fun p2=>[.c (some 28) (cV (.bool true)),.v 7 (.bool true)]) (fun p2=>[(1,.int .i64 n),(2,.int .u8 (md:Int)),(3,.pointer (some ⟨(p1 0).N,0,none⟩)),(6,.bool false),(7,.bool true)]) (by kernel_rfl) (fun _ _=>by kernel_rfl) (fun _=>by kernel_rfl) (fun _=>by kernel_rfl) (fun p2=>?_) (fun p2 W2 T hF hK=>?_)
 ·refine ok_c (fun W cx=>as_v (unhide HA _)) (by kernel_rfl) ?_
  refine ok_v (by kernel_rfl) ?_
  exact ok_nil
 replace hS:=SymF.fb hS hF [0] [⟨(p1 0).N,#[.bool g,.string s,.int .i64 x],23,true⟩] (by kernel_rfl) (by kernel_rfl)
 replace hG:=hF.gx
 clear hF
 have z2:=hS.fr.size
 refine wp_seq ?_
 refine wp_symQ hS hG hK (fun p3=>[.l 29 (.agg #[.bool g,.string s,.int .i64 x]) 0 0,.c (some 30) (cV (.bool true)),.v 31 (.bool false),.v 32 (.bool false),.v 33 (.int .i64 n),.v 34 (.bool true),.v 35 (.bool true),.v 36 (.bool true),.k (some 37),.k (some 38),.v 39 (.bool true),.v 40 (.bool true),.k (some 41),.k (some 42),.v 43 (.bool true)]) (fun p3=>[(1,.int .i64 n),(2,.int .u8 (md:Int)),(3,.pointer (some ⟨(p1 0).N,0,none⟩)),(6,.bool false),(7,.bool true),(43,.bool true)]) (by kernel_rfl) (fun _ _=>by kernel_rfl) (fun _=>by kernel_rfl) (fun _=>by kernel_rfl) (fun p3=>?_) (fun p3 W3 T hF hK=>?_)
 ·refine ok_L (by kernel_rfl) (by kernel_rfl) (by kernel_rfl) ?_
  refine ok_c (fun W cx=>as_v (unhide HC _)) (by kernel_rfl) ?_
  iterate 3 refine ok_v (by kernel_rfl) ?_
  refine ok_vb (decide_eq_true (show n < 1 by omega)) (by kernel_rfl) ?_
  iterate 2 refine ok_v (by kernel_rfl) ?_
  iterate 2 refine ok_K (by kernel_rfl) ?_
  iterate 2 refine ok_v (by kernel_rfl) ?_
  iterate 2 refine ok_K (by kernel_rfl) ?_
  refine ok_v (by kernel_rfl) ?_
  exact ok_nil
 replace hS:=SymF.fb hS hF [0] [⟨(p1 0).N,#[.bool g,.string s,.int .i64 x],23,true⟩] (by kernel_rfl) (by kernel_rfl)
 replace hG:=hF.gx
 clear hF
 have z3:=hS.fr.size
 refine wp_cond_true (hK.ev 43 (by kernel_rfl) _ (by kernel_rfl)) ?_
 refine wp_symQ hS hG hK (fun p4=>[.v 44 (.bool true),.v 6 (.bool true)]) (fun p4=>[(1,.int .i64 n),(2,.int .u8 (md:Int)),(3,.pointer (some ⟨(p1 0).N,0,none⟩)),(6,.bool true),(7,.bool true),(43,.bool true)]) (by kernel_rfl) (fun _ _=>by kernel_rfl) (fun _=>by kernel_rfl) (fun _=>by kernel_rfl) (fun p4=>?_) (fun p4 W4 T hF hK=>?_)
 ·iterate 2 refine ok_v (by kernel_rfl) ?_
  exact ok_nil
 replace hS:=SymF.fb hS hF [0] [⟨(p1 0).N,#[.bool g,.string s,.int .i64 x],23,true⟩] (by kernel_rfl) (by kernel_rfl)
 replace hG:=hF.gx
 clear hF
 have z4:=hS.fr.size
 refine wp_ret ?_
 refine then_r ?_
 exact sym_end hS hK (.bool true) [] [] (by kernel_rfl) (by kernel_rfl) ⟨rfl,hS.fr⟩
theorem nrl_g (w:World) (g:Bool) (s:ByteArray) (x:Int) (n:Int) (md:Nat) (HA:Hid (∀ W:World,Calls Tryz.prog 6 #[] W fun e W'=>e = .returned (.bool true)∧Below W.heap.size W W')) (HC:Hid (∀ W:World,Calls Tryz.prog 7 #[.agg #[.bool g,.string s,.int .i64 x],.int .i64 3000,.int .i64 3000] W fun e W'=>e = .returned (.bool true)∧Below W.heap.size W W')) (h2:2000 < n) :
  Calls Tryz.prog 5 #[.agg #[.bool g,.string s,.int .i64 x],.int .i64 n,.int .u8 (md:Int)] w fun en w'=>en = .returned (.bool true)∧Below w.heap.size w w':=by
 refine calls_sym Tryz.func5 rfl (by kernel_rfl) fun T hK=>?_
 replace hK:Kn T _ [(0,.agg #[.bool g,.string s,.int .i64 x]),(1,.int .i64 n),(2,.int .u8 (md:Int))]:=hK
 have hS:=Fb.begin w
 have hG:GsAt [] w:=trivial
 refine wp_symQ hS hG hK (fun p1=>[.n 3 #[.bool g,.string s,.int .i64 x] 23,.v 6 (.bool false)]) (fun p1=>[(1,.int .i64 n),(2,.int .u8 (md:Int)),(3,.pointer (some ⟨(p1 0).N,0,none⟩)),(6,.bool false)]) (by kernel_rfl) (fun _ _=>by kernel_rfl) (fun _=>by kernel_rfl) (fun _=>by kernel_rfl) (fun p1=>?_) (fun p1 W1 T hF hK=>?_)
 ·refine ok_n (fun _=>by kernel_rfl) ?_
  refine ok_v (by kernel_rfl) ?_
  exact ok_nil
 replace hS:=SymF.fb hS hF [1000] [⟨(p1 0).N,#[.bool g,.string s,.int .i64 x],23,true⟩] (by kernel_rfl) (by kernel_rfl)
 replace hG:=hF.gx
 clear hF
 have z1:=hS.fr.size
 refine wp_symQ hS hG hK (fun p2=>[.c (some 28) (cV (.bool true)),.v 7 (.bool true)]) (fun p2=>[(1,.int .i64 n),(2,.int .u8 (md:Int)),(3,.pointer (some ⟨(p1 0).N,0,none⟩)),(6,.bool false),(7,.bool true)]) (by kernel_rfl) (fun _ _=>by kernel_rfl) (fun _=>by kernel_rfl) (fun _=>by kernel_rfl) (fun p2=>?_) (fun p2 W2 T hF hK=>?_)
 ·refine ok_c (fun W cx=>as_v (unhide HA _)) (by kernel_rfl) ?_
  refine ok_v (by kernel_rfl) ?_
  exact ok_nil
 replace hS:=SymF.fb hS hF [0] [⟨(p1 0).N,#[.bool g,.string s,.int .i64 x],23,true⟩] (by kernel_rfl) (by kernel_rfl)
 replace hG:=hF.gx
 clear hF
 have z2:=hS.fr.size
 refine wp_seq ?_
 refine wp_symQ hS hG hK (fun p3=>[.l 29 (.agg #[.bool g,.string s,.int .i64 x]) 0 0,.c (some 30) (cV (.bool true)),.v 31 (.bool false),.v 32 (.bool false),.v 33 (.int .i64 n),.v 34 (.bool false),.v 35 (.bool false),.v 36 (.bool false),.v 37 (.int .i64 n),.v 38 (.bool true),.v 39 (.bool true),.v 40 (.bool true),.k (some 41),.k (some 42),.v 43 (.bool true)]) (fun p3=>[(1,.int .i64 n),(2,.int .u8 (md:Int)),(3,.pointer (some ⟨(p1 0).N,0,none⟩)),(6,.bool false),(7,.bool true),(43,.bool true)]) (by kernel_rfl) (fun _ _=>by kernel_rfl) (fun _=>by kernel_rfl) (fun _=>by kernel_rfl) (fun p3=>?_) (fun p3 W3 T hF hK=>?_)
 ·refine ok_L (by kernel_rfl) (by kernel_rfl) (by kernel_rfl) ?_
  refine ok_c (fun W cx=>as_v (unhide HC _)) (by kernel_rfl) ?_
  iterate 3 refine ok_v (by kernel_rfl) ?_
  refine ok_vb (decide_eq_false (show ¬ n < 1 by omega)) (by kernel_rfl) ?_
  iterate 3 refine ok_v (by kernel_rfl) ?_
  refine ok_vb (decide_eq_true (show n > 2000 by omega)) (by kernel_rfl) ?_
  iterate 2 refine ok_v (by kernel_rfl) ?_
  iterate 2 refine ok_K (by kernel_rfl) ?_
  refine ok_v (by kernel_rfl) ?_
  exact ok_nil
 replace hS:=SymF.fb hS hF [0] [⟨(p1 0).N,#[.bool g,.string s,.int .i64 x],23,true⟩] (by kernel_rfl) (by kernel_rfl)
 replace hG:=hF.gx
 clear hF
 have z3:=hS.fr.size
 refine wp_cond_true (hK.ev 43 (by kernel_rfl) _ (by kernel_rfl)) ?_
 refine wp_symQ hS hG hK (fun p4=>[.v 44 (.bool true),.v 6 (.bool true)]) (fun p4=>[(1,.int .i64 n),(2,.int .u8 (md:Int)),(3,.pointer (some ⟨(p1 0).N,0,none⟩)),(6,.bool true),(7,.bool true),(43,.bool true)]) (by kernel_rfl) (fun _ _=>by kernel_rfl) (fun _=>by kernel_rfl) (fun _=>by kernel_rfl) (fun p4=>?_) (fun p4 W4 T hF hK=>?_)
 ·iterate 2 refine ok_v (by kernel_rfl) ?_
  exact ok_nil
 replace hS:=SymF.fb hS hF [0] [⟨(p1 0).N,#[.bool g,.string s,.int .i64 x],23,true⟩] (by kernel_rfl) (by kernel_rfl)
 replace hG:=hF.gx
 clear hF
 have z4:=hS.fr.size
 refine wp_ret ?_
 refine then_r ?_
 exact sym_end hS hK (.bool true) [] [] (by kernel_rfl) (by kernel_rfl) ⟨rfl,hS.fr⟩
theorem nrl_m (w:World) (g:Bool) (s:ByteArray) (x:Int) (n:Int) (md:Nat) (HA:Hid (∀ W:World,Calls Tryz.prog 6 #[] W fun e W'=>e = .returned (.bool true)∧Below W.heap.size W W')) (HC:Hid (∀ W:World,Calls Tryz.prog 7 #[.agg #[.bool g,.string s,.int .i64 x],.int .i64 3000,.int .i64 3000] W fun e W'=>e = .returned (.bool true)∧Below W.heap.size W W')) (h1:1≤n) (h2:n≤2000) (h3:4 < md) :
  Calls Tryz.prog 5 #[.agg #[.bool g,.string s,.int .i64 x],.int .i64 n,.int .u8 (md:Int)] w fun en w'=>en = .returned (.bool true)∧Below w.heap.size w w':=by
 refine calls_sym Tryz.func5 rfl (by kernel_rfl) fun T hK=>?_
 replace hK:Kn T _ [(0,.agg #[.bool g,.string s,.int .i64 x]),(1,.int .i64 n),(2,.int .u8 (md:Int))]:=hK
 have hS:=Fb.begin w
 have hG:GsAt [] w:=trivial
 refine wp_symQ hS hG hK (fun p1=>[.n 3 #[.bool g,.string s,.int .i64 x] 23,.v 6 (.bool false)]) (fun p1=>[(1,.int .i64 n),(2,.int .u8 (md:Int)),(3,.pointer (some ⟨(p1 0).N,0,none⟩)),(6,.bool false)]) (by kernel_rfl) (fun _ _=>by kernel_rfl) (fun _=>by kernel_rfl) (fun _=>by kernel_rfl) (fun p1=>?_) (fun p1 W1 T hF hK=>?_)
 ·refine ok_n (fun _=>by kernel_rfl) ?_
  refine ok_v (by kernel_rfl) ?_
  exact ok_nil
 replace hS:=SymF.fb hS hF [1000] [⟨(p1 0).N,#[.bool g,.string s,.int .i64 x],23,true⟩] (by kernel_rfl) (by kernel_rfl)
 replace hG:=hF.gx
 clear hF
 have z1:=hS.fr.size
 refine wp_symQ hS hG hK (fun p2=>[.c (some 28) (cV (.bool true)),.v 7 (.bool true)]) (fun p2=>[(1,.int .i64 n),(2,.int .u8 (md:Int)),(3,.pointer (some ⟨(p1 0).N,0,none⟩)),(6,.bool false),(7,.bool true)]) (by kernel_rfl) (fun _ _=>by kernel_rfl) (fun _=>by kernel_rfl) (fun _=>by kernel_rfl) (fun p2=>?_) (fun p2 W2 T hF hK=>?_)
 ·refine ok_c (fun W cx=>as_v (unhide HA _)) (by kernel_rfl) ?_
  refine ok_v (by kernel_rfl) ?_
  exact ok_nil
 replace hS:=SymF.fb hS hF [0] [⟨(p1 0).N,#[.bool g,.string s,.int .i64 x],23,true⟩] (by kernel_rfl) (by kernel_rfl)
 replace hG:=hF.gx
 clear hF
 have z2:=hS.fr.size
 refine wp_seq ?_
 refine wp_symQ hS hG hK (fun p3=>[.l 29 (.agg #[.bool g,.string s,.int .i64 x]) 0 0,.c (some 30) (cV (.bool true)),.v 31 (.bool false),.v 32 (.bool false),.v 33 (.int .i64 n),.v 34 (.bool false),.v 35 (.bool false),.v 36 (.bool false),.v 37 (.int .i64 n),.v 38 (.bool false),.v 39 (.bool false),.v 40 (.bool false),.v 41 (.int .u8 (md:Int)),.v 42 (.bool true),.v 43 (.bool true)]) (fun p3=>[(1,.int .i64 n),(2,.int .u8 (md:Int)),(3,.pointer (some ⟨(p1 0).N,0,none⟩)),(6,.bool false),(7,.bool true),(43,.bool true)]) (by kernel_rfl) (fun _ _=>by kernel_rfl) (fun _=>by kernel_rfl) (fun _=>by kernel_rfl) (fun p3=>?_) (fun p3 W3 T hF hK=>?_)
 ·refine ok_L (by kernel_rfl) (by kernel_rfl) (by kernel_rfl) ?_
  refine ok_c (fun W cx=>as_v (unhide HC _)) (by kernel_rfl) ?_
  iterate 3 refine ok_v (by kernel_rfl) ?_
  refine ok_vb (decide_eq_false (show ¬ n < 1 by omega)) (by kernel_rfl) ?_
  iterate 3 refine ok_v (by kernel_rfl) ?_
  refine ok_vb (decide_eq_false (show ¬ n > 2000 by omega)) (by kernel_rfl) ?_
  iterate 3 refine ok_v (by kernel_rfl) ?_
  refine ok_vb (decide_eq_true (show (md:Int) > 4 by omega)) (by kernel_rfl) ?_
  refine ok_v (by kernel_rfl) ?_
  exact ok_nil
 replace hS:=SymF.fb hS hF [0] [⟨(p1 0).N,#[.bool g,.string s,.int .i64 x],23,true⟩] (by kernel_rfl) (by kernel_rfl)
 replace hG:=hF.gx
 clear hF
 have z3:=hS.fr.size
 refine wp_cond_true (hK.ev 43 (by kernel_rfl) _ (by kernel_rfl)) ?_
 refine wp_symQ hS hG hK (fun p4=>[.v 44 (.bool true),.v 6 (.bool true)]) (fun p4=>[(1,.int .i64 n),(2,.int .u8 (md:Int)),(3,.pointer (some ⟨(p1 0).N,0,none⟩)),(6,.bool true),(7,.bool true),(43,.bool true)]) (by kernel_rfl) (fun _ _=>by kernel_rfl) (fun _=>by kernel_rfl) (fun _=>by kernel_rfl) (fun p4=>?_) (fun p4 W4 T hF hK=>?_)
 ·iterate 2 refine ok_v (by kernel_rfl) ?_
  exact ok_nil
 replace hS:=SymF.fb hS hF [0] [⟨(p1 0).N,#[.bool g,.string s,.int .i64 x],23,true⟩] (by kernel_rfl) (by kernel_rfl)
 replace hG:=hF.gx
 clear hF
 have z4:=hS.fr.size
 refine wp_ret ?_
 refine then_r ?_
 exact sym_end hS hK (.bool true) [] [] (by kernel_rfl) (by kernel_rfl) ⟨rfl,hS.fr⟩
theorem nrl_tl (w:World) (s:ByteArray) (x:Int) (n md:Nat) (s1:ByteArray) (x1:Int) (s2:ByteArray) (x2:Int) (b1 b2 b3 b4:Bool) (v p:Int) (hs:s.size≤3000) (hx0:-3000≤x) (hx1:x≤3000) (h1:1≤n) (h2:n≤2000) (h3:md≤4) (hs1:s1.size≤n) (hp:min (n:Int) (s.size:Int) = p) (hv:x+(s.size:Int) - p = v) (hm:md < 3) (HA:Hid (∀ W:World,Calls Tryz.prog 6 #[] W fun e W'=>e = .returned (.bool true)∧Below W.heap.size W W')) (HC:Hid (∀ W:World,Calls Tryz.prog 7 #[.agg #[.bool true,.string s,.int .i64 x],.int .i64 3000,.int .i64 3000] W fun e W'=>e = .returned (.bool true)∧Below W.heap.size W W')) (HR:Hid (∀ W:World,Calls Tryz.prog 17 #[.agg #[.bool true,.string s,.int .i64 x],.int .i64 (n:Int),.int .u8 (md:Int)] W fun e W'=>e = .returned (.tuple #[.agg #[.bool true,.string s1,.int .i64 x1],.bool b1,.int .i64 0])∧Below W.heap.size W W')) (HP:Hid (∀ W:World,Calls Tryz.prog 18 #[.agg #[.bool true,.string s,.int .i64 x],.int .i64 (n:Int),.int .u8 (md:Int)] W fun e W'=>e = .returned (.tuple #[.agg #[.bool true,.string s2,.int .i64 x2],.bool b2,.int .i64 0])∧Below W.heap.size W W')) (HS:Hid (∀ W:World,Calls Tryz.prog 17 #[.agg #[.bool false,.string s,.int .i64 x],.int .i64 (n:Int),.int .u8 (md:Int)] W fun e W'=>e = .returned (.tuple #[.agg #[.bool false,.string s1,.int .i64 x1],.bool b3,.int .i64 0])∧Below W.heap.size W W')) (HQ:Hid (∀ W:World,Calls Tryz.prog 18 #[.agg #[.bool false,.string s,.int .i64 x],.int .i64 (n:Int),.int .u8 (md:Int)] W fun e W'=>e = .returned (.tuple #[.agg #[.bool false,.string s2,.int .i64 x2],.bool b4,.int .i64 0])∧Below W.heap.size W W')) (HT:Hid (∀ W:World,Calls Tryz.prog 17 #[.agg #[.bool true,.string s1,.int .i64 x1],.int .i64 (n:Int),.int .u8 (md:Int)] W fun e W'=>e = .returned (.tuple #[.agg #[.bool true,.string s1,.int .i64 x1],.bool true,.int .i64 0])∧Below W.heap.size W W')) (HU:Hid (∀ W:World,Calls Tryz.prog 18 #[.agg #[.bool true,.string s2,.int .i64 x2],.int .i64 (n:Int),.int .u8 (md:Int)] W fun e W'=>e = .returned (.tuple #[.agg #[.bool true,.string s2,.int .i64 x2],.bool true,.int .i64 0])∧Below W.heap.size W W')) (HN:Hid (∀ W:World,Calls Tryz.prog 19 #[.agg #[.bool true,.string s,.int .i64 x],.agg #[.bool true,.string s1,.int .i64 x1],.bool b1,.int .i64 v,.int .u8 (md:Int)] W fun e W'=>e = .returned (.bool true)∧Below W.heap.size W W')) (HM:Hid (∀ W:World,Calls Tryz.prog 19 #[.agg #[.bool true,.string s,.int .i64 x],.agg #[.bool true,.string s2,.int .i64 x2],.bool b2,.int .i64 (-(n:Int)),.int .u8 (md:Int)] W fun e W'=>e = .returned (.bool true)∧Below W.heap.size W W')) :
  Calls Tryz.prog 5 #[.agg #[.bool true,.string s,.int .i64 x],.int .i64 (n:Int),.int .u8 (md:Int)] w fun en w'=>en = .returned (.bool true)∧Below w.heap.size w w':=by
 refine calls_sym Tryz.func5 rfl (by kernel_rfl) fun T hK=>?_
 replace hK:Kn T _ [(0,.agg #[.bool true,.string s,.int .i64 x]),(1,.int .i64 (n:Int)),(2,.int .u8 (md:Int))]:=hK
 have hS:=Fb.begin w
 have hG:GsAt [] w:=trivial
 refine wp_symQ hS hG hK (fun p1=>[.n 3 #[.bool true,.string s,.int .i64 x] 23,.v 6 (.bool false)]) (fun p1=>[(1,.int .i64 (n:Int)),(2,.int .u8 (md:Int)),(3,.pointer (some ⟨(p1 0).N,0,none⟩)),(6,.bool false)]) (by kernel_rfl) (fun _ _=>by kernel_rfl) (fun _=>by kernel_rfl) (fun _=>by kernel_rfl) (fun p1=>?_) (fun p1 W1 T hF hK=>?_)
 ·refine ok_n (fun _=>by kernel_rfl) ?_
  refine ok_v (by kernel_rfl) ?_
  exact ok_nil
 replace hS:=SymF.fb hS hF [1000] [⟨(p1 0).N,#[.bool true,.string s,.int .i64 x],23,true⟩] (by kernel_rfl) (by kernel_rfl)
 replace hG:=hF.gx
 clear hF
 have z1:=hS.fr.size
 refine wp_symQ hS hG hK (fun p2=>[.c (some 28) (cV (.bool true)),.v 7 (.bool true)]) (fun p2=>[(1,.int .i64 (n:Int)),(2,.int .u8 (md:Int)),(3,.pointer (some ⟨(p1 0).N,0,none⟩)),(6,.bool false),(7,.bool true)]) (by kernel_rfl) (fun _ _=>by kernel_rfl) (fun _=>by kernel_rfl) (fun _=>by kernel_rfl) (fun p2=>?_) (fun p2 W2 T hF hK=>?_)
 ·refine ok_c (fun W cx=>as_v (unhide HA _)) (by kernel_rfl) ?_
  refine ok_v (by kernel_rfl) ?_
  exact ok_nil
 replace hS:=SymF.fb hS hF [0] [⟨(p1 0).N,#[.bool true,.string s,.int .i64 x],23,true⟩] (by kernel_rfl) (by kernel_rfl)
 replace hG:=hF.gx
 clear hF
 have z2:=hS.fr.size
 refine wp_seq ?_
 refine wp_symQ hS hG hK (fun p3=>[.l 29 (.agg #[.bool true,.string s,.int .i64 x]) 0 0,.c (some 30) (cV (.bool true)),.v 31 (.bool false),.v 32 (.bool false),.v 33 (.int .i64 (n:Int)),.v 34 (.bool false),.v 35 (.bool false),.v 36 (.bool false),.v 37 (.int .i64 (n:Int)),.v 38 (.bool false),.v 39 (.bool false),.v 40 (.bool false),.v 41 (.int .u8 (md:Int)),.v 42 (.bool false),.v 43 (.bool false)]) (fun p3=>[(1,.int .i64 (n:Int)),(2,.int .u8 (md:Int)),(3,.pointer (some ⟨(p1 0).N,0,none⟩)),(6,.bool false),(7,.bool true),(43,.bool false)]) (by kernel_rfl) (fun _ _=>by kernel_rfl) (fun _=>by kernel_rfl) (fun _=>by kernel_rfl) (fun p3=>?_) (fun p3 W3 T hF hK=>?_)
 ·refine ok_L (by kernel_rfl) (by kernel_rfl) (by kernel_rfl) ?_
  refine ok_c (fun W cx=>as_v (unhide HC _)) (by kernel_rfl) ?_
  iterate 3 refine ok_v (by kernel_rfl) ?_
  refine ok_vb (decide_eq_false (show ¬ (n:Int) < 1 by omega)) (by kernel_rfl) ?_
  iterate 3 refine ok_v (by kernel_rfl) ?_
  refine ok_vb (decide_eq_false (show ¬ (n:Int) > 2000 by omega)) (by kernel_rfl) ?_
  iterate 3 refine ok_v (by kernel_rfl) ?_
  refine ok_vb (decide_eq_false (show ¬ (md:Int) > 4 by omega)) (by kernel_rfl) ?_
  refine ok_v (by kernel_rfl) ?_
  exact ok_nil
 replace hS:=SymF.fb hS hF [0] [⟨(p1 0).N,#[.bool true,.string s,.int .i64 x],23,true⟩] (by kernel_rfl) (by kernel_rfl)
 replace hG:=hF.gx
 clear hF
 have z3:=hS.fr.size
 refine wp_cond_false (hK.ev 43 (by kernel_rfl) _ (by kernel_rfl)) ?_
 refine wp_skip ?_
 refine then_n ?_
 refine wp_symQ hS hG hK (fun p4=>[.l 46 (.agg #[.bool true,.string s,.int .i64 x]) 0 0,.v 47 (.int .i64 (n:Int)),.v 48 (.int .u8 (md:Int)),.c (some 49) (cV (.tuple #[.agg #[.bool true,.string s1,.int .i64 x1],.bool b1,.int .i64 0])),.v 45 (.tuple #[.agg #[.bool true,.string s1,.int .i64 x1],.bool b1,.int .i64 0]),.v 50 (.agg #[.bool true,.string s1,.int .i64 x1]),.v 51 (.bool b1),.v 52 (.int .i64 0),.n 8 #[.bool false,.string ⟨#[]⟩,.int .i64 0] 23,.p 1008 0 [.bool true,.string s1,.int .i64 x1],.v 9 (.bool b1),.v 10 (.int .i64 0)]) (fun p4=>[(1,.int .i64 (n:Int)),(2,.int .u8 (md:Int)),(3,.pointer (some ⟨(p1 0).N,0,none⟩)),(6,.bool false),(7,.bool true),(8,.pointer (some ⟨(p4 8).N,0,none⟩)),(9,.bool b1),(10,.int .i64 0),(43,.bool false)]) (by kernel_rfl) (fun _ _=>by kernel_rfl) (fun _=>by kernel_rfl) (fun _=>by kernel_rfl) (fun p4=>?_) (fun p4 W4 T hF hK=>?_)
 ·refine ok_L (by kernel_rfl) (by kernel_rfl) (by kernel_rfl) ?_
  iterate 2 refine ok_v (by kernel_rfl) ?_
  refine ok_c (fun W cx=>as_v (unhide HR _)) (by kernel_rfl) ?_
  iterate 4 refine ok_v (by kernel_rfl) ?_
  refine ok_n (fun _=>by kernel_rfl) ?_
  refine ok_P (by kernel_rfl) (by kernel_rfl) (by kernel_rfl) ?_
  iterate 2 refine ok_v (by kernel_rfl) ?_
  exact ok_nil
 replace hS:=SymF.fb hS hF [0,1008] [⟨(p1 0).N,#[.bool true,.string s,.int .i64 x],23,true⟩,⟨(p4 8).N,#[.bool true,.string s1,.int .i64 x1],23,true⟩] (by kernel_rfl) (by kernel_rfl)
 replace hG:=hF.gx
 clear hF
 have z4:=hS.fr.size
 refine wp_symQ hS hG hK (fun p5=>[.l 54 (.agg #[.bool true,.string s,.int .i64 x]) 0 0,.v 55 (.int .i64 (n:Int)),.v 56 (.int .u8 (md:Int)),.c (some 57) (cV (.tuple #[.agg #[.bool true,.string s2,.int .i64 x2],.bool b2,.int .i64 0])),.v 53 (.tuple #[.agg #[.bool true,.string s2,.int .i64 x2],.bool b2,.int .i64 0]),.v 58 (.agg #[.bool true,.string s2,.int .i64 x2]),.v 59 (.bool b2),.v 60 (.int .i64 0),.n 11 #[.bool false,.string ⟨#[]⟩,.int .i64 0] 23,.p 1008 0 [.bool true,.string s2,.int .i64 x2],.v 12 (.bool b2),.v 13 (.int .i64 0)]) (fun p5=>[(1,.int .i64 (n:Int)),(2,.int .u8 (md:Int)),(3,.pointer (some ⟨(p1 0).N,0,none⟩)),(6,.bool false),(7,.bool true),(8,.pointer (some ⟨(p4 8).N,0,none⟩)),(9,.bool b1),(10,.int .i64 0),(11,.pointer (some ⟨(p5 8).N,0,none⟩)),(12,.bool b2),(13,.int .i64 0),(43,.bool false)]) (by kernel_rfl) (fun _ _=>by kernel_rfl) (fun _=>by kernel_rfl) (fun _=>by kernel_rfl) (fun p5=>?_) (fun p5 W5 T hF hK=>?_)
 ·refine ok_L (by kernel_rfl) (by kernel_rfl) (by kernel_rfl) ?_
  iterate 2 refine ok_v (by kernel_rfl) ?_
  refine ok_c (fun W cx=>as_v (unhide HP _)) (by kernel_rfl) ?_
  iterate 4 refine ok_v (by kernel_rfl) ?_
  refine ok_n (fun _=>by kernel_rfl) ?_
  refine ok_P (by kernel_rfl) (by kernel_rfl) (by kernel_rfl) ?_
  iterate 2 refine ok_v (by kernel_rfl) ?_
  exact ok_nil
 replace hS:=SymF.fb hS hF [0,1,1008] [⟨(p1 0).N,#[.bool true,.string s,.int .i64 x],23,true⟩,⟨(p4 8).N,#[.bool true,.string s1,.int .i64 x1],23,true⟩,⟨(p5 8).N,#[.bool true,.string s2,.int .i64 x2],23,true⟩] (by kernel_rfl) (by kernel_rfl)
 replace hG:=hF.gx
 clear hF
 have z5:=hS.fr.size
 refine wp_seq ?_
 refine wp_symQ hS hG hK (fun p6=>[.v 61 (.int .i64 0),.v 62 (.bool false),.v 63 (.bool false),.v 64 (.int .i64 0),.v 65 (.bool false),.v 66 (.bool false),.v 67 (.bool false),.v 68 (.pointer (some ⟨(p4 8).N,1,none⟩)),.l 69 (.string s1) 1 1,.v 70 (.int .i64 (s1.size:Int)),.v 71 (.int .i64 (n:Int)),.v 72 (.bool false),.v 73 (.bool false),.v 74 (.bool false),.l 75 (.agg #[.bool true,.string s,.int .i64 x]) 0 0,.l 76 (.agg #[.bool true,.string s1,.int .i64 x1]) 1 0,.v 77 (.bool b1),.v 78 (.pointer (some ⟨(p1 0).N,2,none⟩)),.l 79 (.int .i64 x) 0 2,.v 80 (.pointer (some ⟨(p1 0).N,1,none⟩)),.l 81 (.string s) 0 1,.v 82 (.int .i64 (s.size:Int)),.v 83 (.int .i64 (x+(s.size:Int))),.v 84 (.int .i64 (n:Int)),.v 85 (.pointer (some ⟨(p1 0).N,1,none⟩)),.l 86 (.string s) 0 1,.v 87 (.int .i64 (s.size:Int)),.v 88 (.int .i64 p),.v 89 (.int .i64 v),.v 90 (.int .u8 (md:Int)),.c (some 91) (cV (.bool true)),.v 92 (.bool false),.v 93 (.bool false),.v 94 (.bool false),.l 95 (.agg #[.bool true,.string s,.int .i64 x]) 0 0,.l 96 (.agg #[.bool true,.string s2,.int .i64 x2]) 2 0,.v 97 (.bool b2),.v 98 (.int .i64 (n:Int)),.v 99 (.int .i64 (-(n:Int))),.v 100 (.int .u8 (md:Int)),.c (some 101) (cV (.bool true)),.v 102 (.bool false),.v 103 (.bool false)]) (fun p6=>[(1,.int .i64 (n:Int)),(2,.int .u8 (md:Int)),(3,.pointer (some ⟨(p1 0).N,0,none⟩)),(6,.bool false),(7,.bool true),(8,.pointer (some ⟨(p4 8).N,0,none⟩)),(11,.pointer (some ⟨(p5 8).N,0,none⟩)),(43,.bool false),(103,.bool false)]) (by kernel_rfl) (fun _ _=>by kernel_rfl) (fun _=>by kernel_rfl) (fun _=>by kernel_rfl) (fun p6=>?_) (fun p6 W6 T hF hK=>?_)
 ·iterate 8 refine ok_v (by kernel_rfl) ?_
  refine ok_L (by kernel_rfl) (by kernel_rfl) (by kernel_rfl) ?_
  iterate 2 refine ok_v (by kernel_rfl) ?_
  refine ok_vb (decide_eq_false (show ¬ (s1.size:Int) > (n:Int) by omega)) (by kernel_rfl) ?_
  iterate 2 refine ok_v (by kernel_rfl) ?_
  iterate 2 refine ok_L (by kernel_rfl) (by kernel_rfl) (by kernel_rfl) ?_
  iterate 2 refine ok_v (by kernel_rfl) ?_
  refine ok_L (by kernel_rfl) (by kernel_rfl) (by kernel_rfl) ?_
  refine ok_v (by kernel_rfl) ?_
  refine ok_L (by kernel_rfl) (by kernel_rfl) (by kernel_rfl) ?_
  refine ok_v (by kernel_rfl) ?_
  refine ok_vi (wr64 (x:=x+(s.size:Int)) (by omega) (by omega)) (by kernel_rfl) ?_
  iterate 2 refine ok_v (by kernel_rfl) ?_
  refine ok_L (by kernel_rfl) (by kernel_rfl) (by kernel_rfl) ?_
  refine ok_v (by kernel_rfl) ?_
  refine ok_vi ((imin _ _).trans hp) (by kernel_rfl) ?_
  refine ok_vi ((wr64 (x:=x+(s.size:Int) - p) (by omega) (by omega)).trans hv) (by kernel_rfl) ?_
  refine ok_v (by kernel_rfl) ?_
  refine ok_c (fun W cx=>as_v (unhide HN _)) (by kernel_rfl) ?_
  iterate 3 refine ok_v (by kernel_rfl) ?_
  iterate 2 refine ok_L (by kernel_rfl) (by kernel_rfl) (by kernel_rfl) ?_
  iterate 2 refine ok_v (by kernel_rfl) ?_
  refine ok_vi ((wr64 (x:=0 - (n:Int)) (by omega) (by omega)).trans (by omega)) (by kernel_rfl) ?_
  refine ok_v (by kernel_rfl) ?_
  refine ok_c (fun W cx=>as_v (unhide HM _)) (by kernel_rfl) ?_
  iterate 2 refine ok_v (by kernel_rfl) ?_
  exact ok_nil
 replace hS:=SymF.fb hS hF [0,1,2] [⟨(p1 0).N,#[.bool true,.string s,.int .i64 x],23,true⟩,⟨(p4 8).N,#[.bool true,.string s1,.int .i64 x1],23,true⟩,⟨(p5 8).N,#[.bool true,.string s2,.int .i64 x2],23,true⟩] (by kernel_rfl) (by kernel_rfl)
 replace hG:=hF.gx
 clear hF
 have z6:=hS.fr.size
 refine wp_cond_false (hK.ev 103 (by kernel_rfl) _ (by kernel_rfl)) ?_
 refine wp_skip ?_
 refine then_n ?_
 refine wp_symQ hS hG hK (fun p7=>[.v 104 (.int .u8 (md:Int)),.v 14 (.int .u8 (md:Int))]) (fun p7=>[(1,.int .i64 (n:Int)),(2,.int .u8 (md:Int)),(3,.pointer (some ⟨(p1 0).N,0,none⟩)),(6,.bool false),(7,.bool true),(8,.pointer (some ⟨(p4 8).N,0,none⟩)),(11,.pointer (some ⟨(p5 8).N,0,none⟩)),(14,.int .u8 (md:Int)),(43,.bool false),(103,.bool false)]) (by kernel_rfl) (fun _ _=>by kernel_rfl) (fun _=>by kernel_rfl) (fun _=>by kernel_rfl) (fun p7=>?_) (fun p7 W7 T hF hK=>?_)
 ·iterate 2 refine ok_v (by kernel_rfl) ?_
  exact ok_nil
 replace hS:=SymF.fb hS hF [0,1,2] [⟨(p1 0).N,#[.bool true,.string s,.int .i64 x],23,true⟩,⟨(p4 8).N,#[.bool true,.string s1,.int .i64 x1],23,true⟩,⟨(p5 8).N,#[.bool true,.string s2,.int .i64 x2],23,true⟩] (by kernel_rfl) (by kernel_rfl)
 replace hG:=hF.gx
 clear hF
 have z7:=hS.fr.size
 refine wp_seq ?_
 refine wp_symQ hS hG hK (fun p8=>[.v 105 (.int .u8 (md:Int)),.v 106 (.bool false)]) (fun p8=>[(1,.int .i64 (n:Int)),(2,.int .u8 (md:Int)),(3,.pointer (some ⟨(p1 0).N,0,none⟩)),(6,.bool false),(7,.bool true),(8,.pointer (some ⟨(p4 8).N,0,none⟩)),(11,.pointer (some ⟨(p5 8).N,0,none⟩)),(14,.int .u8 (md:Int)),(43,.bool false),(103,.bool false),(106,.bool false)]) (by kernel_rfl) (fun _ _=>by kernel_rfl) (fun _=>by kernel_rfl) (fun _=>by kernel_rfl) (fun p8=>?_) (fun p8 W8 T hF hK=>?_)
 ·refine ok_v (by kernel_rfl) ?_
  refine ok_vb (decide_eq_false (show ¬ (md:Int) ≥ 3 by omega)) (by kernel_rfl) ?_
  exact ok_nil
 replace hS:=SymF.fb hS hF [0,1,2] [⟨(p1 0).N,#[.bool true,.string s,.int .i64 x],23,true⟩,⟨(p4 8).N,#[.bool true,.string s1,.int .i64 x1],23,true⟩,⟨(p5 8).N,#[.bool true,.string s2,.int .i64 x2],23,true⟩] (by kernel_rfl) (by kernel_rfl)
 replace hG:=hF.gx
 clear hF
 have z8:=hS.fr.size
 refine wp_cond_false (hK.ev 106 (by kernel_rfl) _ (by kernel_rfl)) ?_
 refine wp_skip ?_
 refine then_n ?_
 refine wp_symQ hS hG hK (fun p9=>[.l 109 (.agg #[.bool true,.string s,.int .i64 x]) 0 0,.n 15 #[.bool false,.string ⟨#[]⟩,.int .i64 0] 23,.p 1001 0 [.bool true,.string s,.int .i64 x]]) (fun p9=>[(1,.int .i64 (n:Int)),(2,.int .u8 (md:Int)),(3,.pointer (some ⟨(p1 0).N,0,none⟩)),(6,.bool false),(7,.bool true),(8,.pointer (some ⟨(p4 8).N,0,none⟩)),(11,.pointer (some ⟨(p5 8).N,0,none⟩)),(14,.int .u8 (md:Int)),(15,.pointer (some ⟨(p9 1).N,0,none⟩)),(43,.bool false),(103,.bool false),(106,.bool false)]) (by kernel_rfl) (fun _ _=>by kernel_rfl) (fun _=>by kernel_rfl) (fun _=>by kernel_rfl) (fun p9=>?_) (fun p9 W9 T hF hK=>?_)
 ·refine ok_L (by kernel_rfl) (by kernel_rfl) (by kernel_rfl) ?_
  refine ok_n (fun _=>by kernel_rfl) ?_
  refine ok_P (by kernel_rfl) (by kernel_rfl) (by kernel_rfl) ?_
  exact ok_nil
 replace hS:=SymF.fb hS hF [0,1,2,1001] [⟨(p1 0).N,#[.bool true,.string s,.int .i64 x],23,true⟩,⟨(p4 8).N,#[.bool true,.string s1,.int .i64 x1],23,true⟩,⟨(p5 8).N,#[.bool true,.string s2,.int .i64 x2],23,true⟩,⟨(p9 1).N,#[.bool true,.string s,.int .i64 x],23,true⟩] (by kernel_rfl) (by kernel_rfl)
 replace hG:=hF.gx
 clear hF
 have z9:=hS.fr.size
 refine wp_symQ hS hG hK (fun p10=>[.v 110 (.pointer (some ⟨(p1 0).N,0,none⟩)),.l 111 (.bool true) 0 0,.v 112 (.bool false),.v 113 (.pointer (some ⟨(p9 1).N,0,none⟩)),.p 3 0 [.bool false]]) (fun p10=>[(1,.int .i64 (n:Int)),(2,.int .u8 (md:Int)),(6,.bool false),(7,.bool true),(8,.pointer (some ⟨(p4 8).N,0,none⟩)),(11,.pointer (some ⟨(p5 8).N,0,none⟩)),(14,.int .u8 (md:Int)),(15,.pointer (some ⟨(p9 1).N,0,none⟩)),(43,.bool false),(103,.bool false),(106,.bool false)]) (by kernel_rfl) (fun _ _=>by kernel_rfl) (fun _=>by kernel_rfl) (fun _=>by kernel_rfl) (fun p10=>?_) (fun p10 W10 T hF hK=>?_)
 ·refine ok_v (by kernel_rfl) ?_
  refine ok_L (by kernel_rfl) (by kernel_rfl) (by kernel_rfl) ?_
  iterate 2 refine ok_v (by kernel_rfl) ?_
  refine ok_P (by kernel_rfl) (by kernel_rfl) (by kernel_rfl) ?_
  exact ok_nil
 replace hS:=SymF.fb hS hF [1,2,3] [⟨(p4 8).N,#[.bool true,.string s1,.int .i64 x1],23,true⟩,⟨(p5 8).N,#[.bool true,.string s2,.int .i64 x2],23,true⟩,⟨(p9 1).N,#[.bool false,.string s,.int .i64 x],23,true⟩] (by kernel_rfl) (by kernel_rfl)
 replace hG:=hF.gx
 clear hF
 have z10:=hS.fr.size
 refine wp_symQ hS hG hK (fun p11=>[.l 115 (.agg #[.bool false,.string s,.int .i64 x]) 2 0,.v 116 (.int .i64 (n:Int)),.v 117 (.int .u8 (md:Int)),.c (some 118) (cV (.tuple #[.agg #[.bool false,.string s1,.int .i64 x1],.bool b3,.int .i64 0])),.v 114 (.tuple #[.agg #[.bool false,.string s1,.int .i64 x1],.bool b3,.int .i64 0]),.v 119 (.agg #[.bool false,.string s1,.int .i64 x1]),.v 120 (.bool b3),.v 121 (.int .i64 0),.n 16 #[.bool false,.string ⟨#[]⟩,.int .i64 0] 23,.p 1008 0 [.bool false,.string s1,.int .i64 x1],.v 17 (.bool b3),.v 18 (.int .i64 0)]) (fun p11=>[(1,.int .i64 (n:Int)),(2,.int .u8 (md:Int)),(6,.bool false),(7,.bool true),(8,.pointer (some ⟨(p4 8).N,0,none⟩)),(11,.pointer (some ⟨(p5 8).N,0,none⟩)),(14,.int .u8 (md:Int)),(15,.pointer (some ⟨(p9 1).N,0,none⟩)),(16,.pointer (some ⟨(p11 8).N,0,none⟩)),(18,.int .i64 0),(43,.bool false),(103,.bool false),(106,.bool false)]) (by kernel_rfl) (fun _ _=>by kernel_rfl) (fun _=>by kernel_rfl) (fun _=>by kernel_rfl) (fun p11=>?_) (fun p11 W11 T hF hK=>?_)
 ·refine ok_L (by kernel_rfl) (by kernel_rfl) (by kernel_rfl) ?_
  iterate 2 refine ok_v (by kernel_rfl) ?_
  refine ok_c (fun W cx=>as_v (unhide HS _)) (by kernel_rfl) ?_
  iterate 4 refine ok_v (by kernel_rfl) ?_
  refine ok_n (fun _=>by kernel_rfl) ?_
  refine ok_P (by kernel_rfl) (by kernel_rfl) (by kernel_rfl) ?_
  iterate 2 refine ok_v (by kernel_rfl) ?_
  exact ok_nil
 replace hS:=SymF.fb hS hF [0,1,2,1008] [⟨(p4 8).N,#[.bool true,.string s1,.int .i64 x1],23,true⟩,⟨(p5 8).N,#[.bool true,.string s2,.int .i64 x2],23,true⟩,⟨(p9 1).N,#[.bool false,.string s,.int .i64 x],23,true⟩,⟨(p11 8).N,#[.bool false,.string s1,.int .i64 x1],23,true⟩] (by kernel_rfl) (by kernel_rfl)
 replace hG:=hF.gx
 clear hF
 have z11:=hS.fr.size
 refine wp_symQ hS hG hK (fun p12=>[.l 123 (.agg #[.bool false,.string s,.int .i64 x]) 2 0,.v 124 (.int .i64 (n:Int)),.v 125 (.int .u8 (md:Int)),.c (some 126) (cV (.tuple #[.agg #[.bool false,.string s2,.int .i64 x2],.bool b4,.int .i64 0])),.v 122 (.tuple #[.agg #[.bool false,.string s2,.int .i64 x2],.bool b4,.int .i64 0]),.v 127 (.agg #[.bool false,.string s2,.int .i64 x2]),.v 128 (.bool b4),.v 129 (.int .i64 0),.n 19 #[.bool false,.string ⟨#[]⟩,.int .i64 0] 23,.p 1008 0 [.bool false,.string s2,.int .i64 x2],.v 20 (.bool b4),.v 21 (.int .i64 0)]) (fun p12=>[(1,.int .i64 (n:Int)),(2,.int .u8 (md:Int)),(6,.bool false),(7,.bool true),(8,.pointer (some ⟨(p4 8).N,0,none⟩)),(11,.pointer (some ⟨(p5 8).N,0,none⟩)),(16,.pointer (some ⟨(p11 8).N,0,none⟩)),(18,.int .i64 0),(19,.pointer (some ⟨(p12 8).N,0,none⟩)),(21,.int .i64 0),(43,.bool false),(103,.bool false),(106,.bool false)]) (by kernel_rfl) (fun _ _=>by kernel_rfl) (fun _=>by kernel_rfl) (fun _=>by kernel_rfl) (fun p12=>?_) (fun p12 W12 T hF hK=>?_)
 ·refine ok_L (by kernel_rfl) (by kernel_rfl) (by kernel_rfl) ?_
  iterate 2 refine ok_v (by kernel_rfl) ?_
  refine ok_c (fun W cx=>as_v (unhide HQ _)) (by kernel_rfl) ?_
  iterate 4 refine ok_v (by kernel_rfl) ?_
  refine ok_n (fun _=>by kernel_rfl) ?_
  refine ok_P (by kernel_rfl) (by kernel_rfl) (by kernel_rfl) ?_
  iterate 2 refine ok_v (by kernel_rfl) ?_
  exact ok_nil
 replace hS:=SymF.fb hS hF [0,1,3,1008] [⟨(p4 8).N,#[.bool true,.string s1,.int .i64 x1],23,true⟩,⟨(p5 8).N,#[.bool true,.string s2,.int .i64 x2],23,true⟩,⟨(p11 8).N,#[.bool false,.string s1,.int .i64 x1],23,true⟩,⟨(p12 8).N,#[.bool false,.string s2,.int .i64 x2],23,true⟩] (by kernel_rfl) (by kernel_rfl)
 replace hG:=hF.gx
 clear hF
 have z12:=hS.fr.size
 refine wp_symQ hS hG hK (fun p13=>[.v 130 (.pointer (some ⟨(p11 8).N,0,none⟩)),.l 131 (.bool false) 2 0,.v 132 (.bool true),.v 133 (.pointer (some ⟨(p12 8).N,0,none⟩)),.l 134 (.bool false) 3 0,.v 135 (.bool true),.v 136 (.pointer (some ⟨(p11 8).N,0,none⟩)),.p 2 0 [.bool true],.v 137 (.pointer (some ⟨(p12 8).N,0,none⟩)),.p 3 0 [.bool true]]) (fun p13=>[(1,.int .i64 (n:Int)),(2,.int .u8 (md:Int)),(6,.bool false),(7,.bool true),(8,.pointer (some ⟨(p4 8).N,0,none⟩)),(11,.pointer (some ⟨(p5 8).N,0,none⟩)),(16,.pointer (some ⟨(p11 8).N,0,none⟩)),(18,.int .i64 0),(19,.pointer (some ⟨(p12 8).N,0,none⟩)),(21,.int .i64 0),(43,.bool false),(103,.bool false),(106,.bool false)]) (by kernel_rfl) (fun _ _=>by kernel_rfl) (fun _=>by kernel_rfl) (fun _=>by kernel_rfl) (fun p13=>?_) (fun p13 W13 T hF hK=>?_)
 ·refine ok_v (by kernel_rfl) ?_
  refine ok_L (by kernel_rfl) (by kernel_rfl) (by kernel_rfl) ?_
  iterate 2 refine ok_v (by kernel_rfl) ?_
  refine ok_L (by kernel_rfl) (by kernel_rfl) (by kernel_rfl) ?_
  iterate 2 refine ok_v (by kernel_rfl) ?_
  refine ok_P (by kernel_rfl) (by kernel_rfl) (by kernel_rfl) ?_
  refine ok_v (by kernel_rfl) ?_
  refine ok_P (by kernel_rfl) (by kernel_rfl) (by kernel_rfl) ?_
  exact ok_nil
 replace hS:=SymF.fb hS hF [0,1,2,3] [⟨(p4 8).N,#[.bool true,.string s1,.int .i64 x1],23,true⟩,⟨(p5 8).N,#[.bool true,.string s2,.int .i64 x2],23,true⟩,⟨(p11 8).N,#[.bool true,.string s1,.int .i64 x1],23,true⟩,⟨(p12 8).N,#[.bool true,.string s2,.int .i64 x2],23,true⟩] (by kernel_rfl) (by kernel_rfl)
 replace hG:=hF.gx
 clear hF
 have z13:=hS.fr.size
 refine wp_symQ hS hG hK (fun p14=>[.l 139 (.agg #[.bool true,.string s1,.int .i64 x1]) 0 0,.v 140 (.int .i64 (n:Int)),.v 141 (.int .u8 (md:Int)),.c (some 142) (cV (.tuple #[.agg #[.bool true,.string s1,.int .i64 x1],.bool true,.int .i64 0])),.v 138 (.tuple #[.agg #[.bool true,.string s1,.int .i64 x1],.bool true,.int .i64 0]),.v 143 (.agg #[.bool true,.string s1,.int .i64 x1]),.v 144 (.bool true),.v 145 (.int .i64 0),.n 22 #[.bool false,.string ⟨#[]⟩,.int .i64 0] 23,.p 1008 0 [.bool true,.string s1,.int .i64 x1],.v 23 (.bool true),.v 24 (.int .i64 0)]) (fun p14=>[(1,.int .i64 (n:Int)),(2,.int .u8 (md:Int)),(6,.bool false),(7,.bool true),(8,.pointer (some ⟨(p4 8).N,0,none⟩)),(11,.pointer (some ⟨(p5 8).N,0,none⟩)),(16,.pointer (some ⟨(p11 8).N,0,none⟩)),(18,.int .i64 0),(19,.pointer (some ⟨(p12 8).N,0,none⟩)),(21,.int .i64 0),(22,.pointer (some ⟨(p14 8).N,0,none⟩)),(23,.bool true),(24,.int .i64 0),(43,.bool false),(103,.bool false),(106,.bool false)]) (by kernel_rfl) (fun _ _=>by kernel_rfl) (fun _=>by kernel_rfl) (fun _=>by kernel_rfl) (fun p14=>?_) (fun p14 W14 T hF hK=>?_)
 ·refine ok_L (by kernel_rfl) (by kernel_rfl) (by kernel_rfl) ?_
  iterate 2 refine ok_v (by kernel_rfl) ?_
  refine ok_c (fun W cx=>as_v (unhide HT _)) (by kernel_rfl) ?_
  iterate 4 refine ok_v (by kernel_rfl) ?_
  refine ok_n (fun _=>by kernel_rfl) ?_
  refine ok_P (by kernel_rfl) (by kernel_rfl) (by kernel_rfl) ?_
  iterate 2 refine ok_v (by kernel_rfl) ?_
  exact ok_nil
 replace hS:=SymF.fb hS hF [0,1,2,3,1008] [⟨(p4 8).N,#[.bool true,.string s1,.int .i64 x1],23,true⟩,⟨(p5 8).N,#[.bool true,.string s2,.int .i64 x2],23,true⟩,⟨(p11 8).N,#[.bool true,.string s1,.int .i64 x1],23,true⟩,⟨(p12 8).N,#[.bool true,.string s2,.int .i64 x2],23,true⟩,⟨(p14 8).N,#[.bool true,.string s1,.int .i64 x1],23,true⟩] (by kernel_rfl) (by kernel_rfl)
 replace hG:=hF.gx
 clear hF
 have z14:=hS.fr.size
 refine wp_symQ hS hG hK (fun p15=>[.l 147 (.agg #[.bool true,.string s2,.int .i64 x2]) 1 0,.v 148 (.int .i64 (n:Int)),.v 149 (.int .u8 (md:Int)),.c (some 150) (cV (.tuple #[.agg #[.bool true,.string s2,.int .i64 x2],.bool true,.int .i64 0])),.v 146 (.tuple #[.agg #[.bool true,.string s2,.int .i64 x2],.bool true,.int .i64 0]),.v 151 (.agg #[.bool true,.string s2,.int .i64 x2]),.v 152 (.bool true),.v 153 (.int .i64 0),.n 25 #[.bool false,.string ⟨#[]⟩,.int .i64 0] 23,.p 1008 0 [.bool true,.string s2,.int .i64 x2],.v 26 (.bool true),.v 27 (.int .i64 0)]) (fun p15=>[(2,.int .u8 (md:Int)),(6,.bool false),(7,.bool true),(8,.pointer (some ⟨(p4 8).N,0,none⟩)),(11,.pointer (some ⟨(p5 8).N,0,none⟩)),(16,.pointer (some ⟨(p11 8).N,0,none⟩)),(18,.int .i64 0),(19,.pointer (some ⟨(p12 8).N,0,none⟩)),(21,.int .i64 0),(22,.pointer (some ⟨(p14 8).N,0,none⟩)),(23,.bool true),(24,.int .i64 0),(25,.pointer (some ⟨(p15 8).N,0,none⟩)),(26,.bool true),(27,.int .i64 0),(43,.bool false),(103,.bool false),(106,.bool false)]) (by kernel_rfl) (fun _ _=>by kernel_rfl) (fun _=>by kernel_rfl) (fun _=>by kernel_rfl) (fun p15=>?_) (fun p15 W15 T hF hK=>?_)
 ·refine ok_L (by kernel_rfl) (by kernel_rfl) (by kernel_rfl) ?_
  iterate 2 refine ok_v (by kernel_rfl) ?_
  refine ok_c (fun W cx=>as_v (unhide HU _)) (by kernel_rfl) ?_
  iterate 4 refine ok_v (by kernel_rfl) ?_
  refine ok_n (fun _=>by kernel_rfl) ?_
  refine ok_P (by kernel_rfl) (by kernel_rfl) (by kernel_rfl) ?_
  iterate 2 refine ok_v (by kernel_rfl) ?_
  exact ok_nil
 replace hS:=SymF.fb hS hF [0,1,2,3,4,1008] [⟨(p4 8).N,#[.bool true,.string s1,.int .i64 x1],23,true⟩,⟨(p5 8).N,#[.bool true,.string s2,.int .i64 x2],23,true⟩,⟨(p11 8).N,#[.bool true,.string s1,.int .i64 x1],23,true⟩,⟨(p12 8).N,#[.bool true,.string s2,.int .i64 x2],23,true⟩,⟨(p14 8).N,#[.bool true,.string s1,.int .i64 x1],23,true⟩,⟨(p15 8).N,#[.bool true,.string s2,.int .i64 x2],23,true⟩] (by kernel_rfl) (by kernel_rfl)
 replace hG:=hF.gx
 clear hF
 have z15:=hS.fr.size
 refine wp_symQ hS hG hK (fun p16=>[.v 154 (.bool true),.v 155 (.bool true),.v 156 (.int .i64 0),.v 157 (.bool true),.v 158 (.bool true),.v 159 (.bool true),.v 160 (.int .i64 0),.v 161 (.bool true),.v 162 (.bool true),.v 163 (.bool true),.v 164 (.int .i64 0),.v 165 (.bool true),.v 166 (.bool true),.v 167 (.bool true),.v 168 (.int .i64 0),.v 169 (.bool true),.v 170 (.bool true),.v 171 (.bool true),.l 172 (.agg #[.bool true,.string s1,.int .i64 x1]) 2 0,.l 173 (.agg #[.bool true,.string s1,.int .i64 x1]) 0 0,.v 174 (.bool true),.v 175 (.bool true),.v 176 (.bool true),.l 177 (.agg #[.bool true,.string s2,.int .i64 x2]) 3 0,.l 178 (.agg #[.bool true,.string s2,.int .i64 x2]) 1 0,.v 179 (.bool true),.v 180 (.bool true),.v 181 (.bool true),.v 182 (.bool true),.v 183 (.bool true),.v 184 (.bool true),.v 185 (.bool true),.v 186 (.bool true),.v 187 (.bool true),.l 188 (.agg #[.bool true,.string s1,.int .i64 x1]) 4 0,.l 189 (.agg #[.bool true,.string s1,.int .i64 x1]) 0 0,.v 190 (.bool true),.v 191 (.bool true),.v 192 (.bool true),.l 193 (.agg #[.bool true,.string s2,.int .i64 x2]) 5 0,.l 194 (.agg #[.bool true,.string s2,.int .i64 x2]) 1 0,.v 195 (.bool true),.v 196 (.bool true),.v 6 (.bool true)]) (fun p16=>[(2,.int .u8 (md:Int)),(6,.bool true),(7,.bool true),(43,.bool false),(103,.bool false),(106,.bool false)]) (by kernel_rfl) (fun _ _=>by kernel_rfl) (fun _=>by kernel_rfl) (fun _=>by kernel_rfl) (fun p16=>?_) (fun p16 W16 T hF hK=>?_)
 ·iterate 18 refine ok_v (by kernel_rfl) ?_
  iterate 2 refine ok_L (by kernel_rfl) (by kernel_rfl) (by kernel_rfl) ?_
  refine ok_vr (script_eqdec true s1 x1) (by kernel_rfl) ?_
  iterate 2 refine ok_v (by kernel_rfl) ?_
  iterate 2 refine ok_L (by kernel_rfl) (by kernel_rfl) (by kernel_rfl) ?_
  refine ok_vr (script_eqdec true s2 x2) (by kernel_rfl) ?_
  iterate 8 refine ok_v (by kernel_rfl) ?_
  iterate 2 refine ok_L (by kernel_rfl) (by kernel_rfl) (by kernel_rfl) ?_
  refine ok_vr (script_eqdec true s1 x1) (by kernel_rfl) ?_
  iterate 2 refine ok_v (by kernel_rfl) ?_
  iterate 2 refine ok_L (by kernel_rfl) (by kernel_rfl) (by kernel_rfl) ?_
  refine ok_vr (script_eqdec true s2 x2) (by kernel_rfl) ?_
  iterate 2 refine ok_v (by kernel_rfl) ?_
  exact ok_nil
 replace hS:=SymF.fb hS hF [] [] (by kernel_rfl) (by kernel_rfl)
 replace hG:=hF.gx
 clear hF
 have z16:=hS.fr.size
 refine wp_ret ?_
 exact sym_end hS hK (.bool true) [] [] (by kernel_rfl) (by kernel_rfl) ⟨rfl,hS.fr⟩
theorem nrl_th (w:World) (s:ByteArray) (x:Int) (n md mm:Nat) (s1:ByteArray) (x1:Int) (s2:ByteArray) (x2:Int) (b1 b2 b3 b4:Bool) (v p:Int) (hs:s.size≤3000) (hx0:-3000≤x) (hx1:x≤3000) (h1:1≤n) (h2:n≤2000) (h3:md≤4) (hs1:s1.size≤n) (hp:min (n:Int) (s.size:Int) = p) (hv:x+(s.size:Int) - p = v) (hm:3≤md) (hmm:7 - md = mm) (HA:Hid (∀ W:World,Calls Tryz.prog 6 #[] W fun e W'=>e = .returned (.bool true)∧Below W.heap.size W W')) (HC:Hid (∀ W:World,Calls Tryz.prog 7 #[.agg #[.bool true,.string s,.int .i64 x],.int .i64 3000,.int .i64 3000] W fun e W'=>e = .returned (.bool true)∧Below W.heap.size W W')) (HR:Hid (∀ W:World,Calls Tryz.prog 17 #[.agg #[.bool true,.string s,.int .i64 x],.int .i64 (n:Int),.int .u8 (md:Int)] W fun e W'=>e = .returned (.tuple #[.agg #[.bool true,.string s1,.int .i64 x1],.bool b1,.int .i64 0])∧Below W.heap.size W W')) (HP:Hid (∀ W:World,Calls Tryz.prog 18 #[.agg #[.bool true,.string s,.int .i64 x],.int .i64 (n:Int),.int .u8 (md:Int)] W fun e W'=>e = .returned (.tuple #[.agg #[.bool true,.string s2,.int .i64 x2],.bool b2,.int .i64 0])∧Below W.heap.size W W')) (HS:Hid (∀ W:World,Calls Tryz.prog 17 #[.agg #[.bool false,.string s,.int .i64 x],.int .i64 (n:Int),.int .u8 (mm:Int)] W fun e W'=>e = .returned (.tuple #[.agg #[.bool false,.string s1,.int .i64 x1],.bool b3,.int .i64 0])∧Below W.heap.size W W')) (HQ:Hid (∀ W:World,Calls Tryz.prog 18 #[.agg #[.bool false,.string s,.int .i64 x],.int .i64 (n:Int),.int .u8 (mm:Int)] W fun e W'=>e = .returned (.tuple #[.agg #[.bool false,.string s2,.int .i64 x2],.bool b4,.int .i64 0])∧Below W.heap.size W W')) (HT:Hid (∀ W:World,Calls Tryz.prog 17 #[.agg #[.bool true,.string s1,.int .i64 x1],.int .i64 (n:Int),.int .u8 (md:Int)] W fun e W'=>e = .returned (.tuple #[.agg #[.bool true,.string s1,.int .i64 x1],.bool true,.int .i64 0])∧Below W.heap.size W W')) (HU:Hid (∀ W:World,Calls Tryz.prog 18 #[.agg #[.bool true,.string s2,.int .i64 x2],.int .i64 (n:Int),.int .u8 (md:Int)] W fun e W'=>e = .returned (.tuple #[.agg #[.bool true,.string s2,.int .i64 x2],.bool true,.int .i64 0])∧Below W.heap.size W W')) (HN:Hid (∀ W:World,Calls Tryz.prog 19 #[.agg #[.bool true,.string s,.int .i64 x],.agg #[.bool true,.string s1,.int .i64 x1],.bool b1,.int .i64 v,.int .u8 (md:Int)] W fun e W'=>e = .returned (.bool true)∧Below W.heap.size W W')) (HM:Hid (∀ W:World,Calls Tryz.prog 19 #[.agg #[.bool true,.string s,.int .i64 x],.agg #[.bool true,.string s2,.int .i64 x2],.bool b2,.int .i64 (-(n:Int)),.int .u8 (md:Int)] W fun e W'=>e = .returned (.bool true)∧Below W.heap.size W W')) :
  Calls Tryz.prog 5 #[.agg #[.bool true,.string s,.int .i64 x],.int .i64 (n:Int),.int .u8 (md:Int)] w fun en w'=>en = .returned (.bool true)∧Below w.heap.size w w':=by
 refine calls_sym Tryz.func5 rfl (by kernel_rfl) fun T hK=>?_
 replace hK:Kn T _ [(0,.agg #[.bool true,.string s,.int .i64 x]),(1,.int .i64 (n:Int)),(2,.int .u8 (md:Int))]:=hK
 have hS:=Fb.begin w
 have hG:GsAt [] w:=trivial
 refine wp_symQ hS hG hK (fun p1=>[.n 3 #[.bool true,.string s,.int .i64 x] 23,.v 6 (.bool false)]) (fun p1=>[(1,.int .i64 (n:Int)),(2,.int .u8 (md:Int)),(3,.pointer (some ⟨(p1 0).N,0,none⟩)),(6,.bool false)]) (by kernel_rfl) (fun _ _=>by kernel_rfl) (fun _=>by kernel_rfl) (fun _=>by kernel_rfl) (fun p1=>?_) (fun p1 W1 T hF hK=>?_)
 ·refine ok_n (fun _=>by kernel_rfl) ?_
  refine ok_v (by kernel_rfl) ?_
  exact ok_nil
 replace hS:=SymF.fb hS hF [1000] [⟨(p1 0).N,#[.bool true,.string s,.int .i64 x],23,true⟩] (by kernel_rfl) (by kernel_rfl)
 replace hG:=hF.gx
 clear hF
 have z1:=hS.fr.size
 refine wp_symQ hS hG hK (fun p2=>[.c (some 28) (cV (.bool true)),.v 7 (.bool true)]) (fun p2=>[(1,.int .i64 (n:Int)),(2,.int .u8 (md:Int)),(3,.pointer (some ⟨(p1 0).N,0,none⟩)),(6,.bool false),(7,.bool true)]) (by kernel_rfl) (fun _ _=>by kernel_rfl) (fun _=>by kernel_rfl) (fun _=>by kernel_rfl) (fun p2=>?_) (fun p2 W2 T hF hK=>?_)
 ·refine ok_c (fun W cx=>as_v (unhide HA _)) (by kernel_rfl) ?_
  refine ok_v (by kernel_rfl) ?_
  exact ok_nil
 replace hS:=SymF.fb hS hF [0] [⟨(p1 0).N,#[.bool true,.string s,.int .i64 x],23,true⟩] (by kernel_rfl) (by kernel_rfl)
 replace hG:=hF.gx
 clear hF
 have z2:=hS.fr.size
 refine wp_seq ?_
 refine wp_symQ hS hG hK (fun p3=>[.l 29 (.agg #[.bool true,.string s,.int .i64 x]) 0 0,.c (some 30) (cV (.bool true)),.v 31 (.bool false),.v 32 (.bool false),.v 33 (.int .i64 (n:Int)),.v 34 (.bool false),.v 35 (.bool false),.v 36 (.bool false),.v 37 (.int .i64 (n:Int)),.v 38 (.bool false),.v 39 (.bool false),.v 40 (.bool false),.v 41 (.int .u8 (md:Int)),.v 42 (.bool false),.v 43 (.bool false)]) (fun p3=>[(1,.int .i64 (n:Int)),(2,.int .u8 (md:Int)),(3,.pointer (some ⟨(p1 0).N,0,none⟩)),(6,.bool false),(7,.bool true),(43,.bool false)]) (by kernel_rfl) (fun _ _=>by kernel_rfl) (fun _=>by kernel_rfl) (fun _=>by kernel_rfl) (fun p3=>?_) (fun p3 W3 T hF hK=>?_)
 ·refine ok_L (by kernel_rfl) (by kernel_rfl) (by kernel_rfl) ?_
  refine ok_c (fun W cx=>as_v (unhide HC _)) (by kernel_rfl) ?_
  iterate 3 refine ok_v (by kernel_rfl) ?_
  refine ok_vb (decide_eq_false (show ¬ (n:Int) < 1 by omega)) (by kernel_rfl) ?_
  iterate 3 refine ok_v (by kernel_rfl) ?_
  refine ok_vb (decide_eq_false (show ¬ (n:Int) > 2000 by omega)) (by kernel_rfl) ?_
  iterate 3 refine ok_v (by kernel_rfl) ?_
  refine ok_vb (decide_eq_false (show ¬ (md:Int) > 4 by omega)) (by kernel_rfl) ?_
  refine ok_v (by kernel_rfl) ?_
  exact ok_nil
 replace hS:=SymF.fb hS hF [0] [⟨(p1 0).N,#[.bool true,.string s,.int .i64 x],23,true⟩] (by kernel_rfl) (by kernel_rfl)
 replace hG:=hF.gx
 clear hF
 have z3:=hS.fr.size
 refine wp_cond_false (hK.ev 43 (by kernel_rfl) _ (by kernel_rfl)) ?_
 refine wp_skip ?_
 refine then_n ?_
 refine wp_symQ hS hG hK (fun p4=>[.l 46 (.agg #[.bool true,.string s,.int .i64 x]) 0 0,.v 47 (.int .i64 (n:Int)),.v 48 (.int .u8 (md:Int)),.c (some 49) (cV (.tuple #[.agg #[.bool true,.string s1,.int .i64 x1],.bool b1,.int .i64 0])),.v 45 (.tuple #[.agg #[.bool true,.string s1,.int .i64 x1],.bool b1,.int .i64 0]),.v 50 (.agg #[.bool true,.string s1,.int .i64 x1]),.v 51 (.bool b1),.v 52 (.int .i64 0),.n 8 #[.bool false,.string ⟨#[]⟩,.int .i64 0] 23,.p 1008 0 [.bool true,.string s1,.int .i64 x1],.v 9 (.bool b1),.v 10 (.int .i64 0)]) (fun p4=>[(1,.int .i64 (n:Int)),(2,.int .u8 (md:Int)),(3,.pointer (some ⟨(p1 0).N,0,none⟩)),(6,.bool false),(7,.bool true),(8,.pointer (some ⟨(p4 8).N,0,none⟩)),(9,.bool b1),(10,.int .i64 0),(43,.bool false)]) (by kernel_rfl) (fun _ _=>by kernel_rfl) (fun _=>by kernel_rfl) (fun _=>by kernel_rfl) (fun p4=>?_) (fun p4 W4 T hF hK=>?_)
 ·refine ok_L (by kernel_rfl) (by kernel_rfl) (by kernel_rfl) ?_
  iterate 2 refine ok_v (by kernel_rfl) ?_
  refine ok_c (fun W cx=>as_v (unhide HR _)) (by kernel_rfl) ?_
  iterate 4 refine ok_v (by kernel_rfl) ?_
  refine ok_n (fun _=>by kernel_rfl) ?_
  refine ok_P (by kernel_rfl) (by kernel_rfl) (by kernel_rfl) ?_
  iterate 2 refine ok_v (by kernel_rfl) ?_
  exact ok_nil
 replace hS:=SymF.fb hS hF [0,1008] [⟨(p1 0).N,#[.bool true,.string s,.int .i64 x],23,true⟩,⟨(p4 8).N,#[.bool true,.string s1,.int .i64 x1],23,true⟩] (by kernel_rfl) (by kernel_rfl)
 replace hG:=hF.gx
 clear hF
 have z4:=hS.fr.size
 refine wp_symQ hS hG hK (fun p5=>[.l 54 (.agg #[.bool true,.string s,.int .i64 x]) 0 0,.v 55 (.int .i64 (n:Int)),.v 56 (.int .u8 (md:Int)),.c (some 57) (cV (.tuple #[.agg #[.bool true,.string s2,.int .i64 x2],.bool b2,.int .i64 0])),.v 53 (.tuple #[.agg #[.bool true,.string s2,.int .i64 x2],.bool b2,.int .i64 0]),.v 58 (.agg #[.bool true,.string s2,.int .i64 x2]),.v 59 (.bool b2),.v 60 (.int .i64 0),.n 11 #[.bool false,.string ⟨#[]⟩,.int .i64 0] 23,.p 1008 0 [.bool true,.string s2,.int .i64 x2],.v 12 (.bool b2),.v 13 (.int .i64 0)]) (fun p5=>[(1,.int .i64 (n:Int)),(2,.int .u8 (md:Int)),(3,.pointer (some ⟨(p1 0).N,0,none⟩)),(6,.bool false),(7,.bool true),(8,.pointer (some ⟨(p4 8).N,0,none⟩)),(9,.bool b1),(10,.int .i64 0),(11,.pointer (some ⟨(p5 8).N,0,none⟩)),(12,.bool b2),(13,.int .i64 0),(43,.bool false)]) (by kernel_rfl) (fun _ _=>by kernel_rfl) (fun _=>by kernel_rfl) (fun _=>by kernel_rfl) (fun p5=>?_) (fun p5 W5 T hF hK=>?_)
 ·refine ok_L (by kernel_rfl) (by kernel_rfl) (by kernel_rfl) ?_
  iterate 2 refine ok_v (by kernel_rfl) ?_
  refine ok_c (fun W cx=>as_v (unhide HP _)) (by kernel_rfl) ?_
  iterate 4 refine ok_v (by kernel_rfl) ?_
  refine ok_n (fun _=>by kernel_rfl) ?_
  refine ok_P (by kernel_rfl) (by kernel_rfl) (by kernel_rfl) ?_
  iterate 2 refine ok_v (by kernel_rfl) ?_
  exact ok_nil
 replace hS:=SymF.fb hS hF [0,1,1008] [⟨(p1 0).N,#[.bool true,.string s,.int .i64 x],23,true⟩,⟨(p4 8).N,#[.bool true,.string s1,.int .i64 x1],23,true⟩,⟨(p5 8).N,#[.bool true,.string s2,.int .i64 x2],23,true⟩] (by kernel_rfl) (by kernel_rfl)
 replace hG:=hF.gx
 clear hF
 have z5:=hS.fr.size
 refine wp_seq ?_
 refine wp_symQ hS hG hK (fun p6=>[.v 61 (.int .i64 0),.v 62 (.bool false),.v 63 (.bool false),.v 64 (.int .i64 0),.v 65 (.bool false),.v 66 (.bool false),.v 67 (.bool false),.v 68 (.pointer (some ⟨(p4 8).N,1,none⟩)),.l 69 (.string s1) 1 1,.v 70 (.int .i64 (s1.size:Int)),.v 71 (.int .i64 (n:Int)),.v 72 (.bool false),.v 73 (.bool false),.v 74 (.bool false),.l 75 (.agg #[.bool true,.string s,.int .i64 x]) 0 0,.l 76 (.agg #[.bool true,.string s1,.int .i64 x1]) 1 0,.v 77 (.bool b1),.v 78 (.pointer (some ⟨(p1 0).N,2,none⟩)),.l 79 (.int .i64 x) 0 2,.v 80 (.pointer (some ⟨(p1 0).N,1,none⟩)),.l 81 (.string s) 0 1,.v 82 (.int .i64 (s.size:Int)),.v 83 (.int .i64 (x+(s.size:Int))),.v 84 (.int .i64 (n:Int)),.v 85 (.pointer (some ⟨(p1 0).N,1,none⟩)),.l 86 (.string s) 0 1,.v 87 (.int .i64 (s.size:Int)),.v 88 (.int .i64 p),.v 89 (.int .i64 v),.v 90 (.int .u8 (md:Int)),.c (some 91) (cV (.bool true)),.v 92 (.bool false),.v 93 (.bool false),.v 94 (.bool false),.l 95 (.agg #[.bool true,.string s,.int .i64 x]) 0 0,.l 96 (.agg #[.bool true,.string s2,.int .i64 x2]) 2 0,.v 97 (.bool b2),.v 98 (.int .i64 (n:Int)),.v 99 (.int .i64 (-(n:Int))),.v 100 (.int .u8 (md:Int)),.c (some 101) (cV (.bool true)),.v 102 (.bool false),.v 103 (.bool false)]) (fun p6=>[(1,.int .i64 (n:Int)),(2,.int .u8 (md:Int)),(3,.pointer (some ⟨(p1 0).N,0,none⟩)),(6,.bool false),(7,.bool true),(8,.pointer (some ⟨(p4 8).N,0,none⟩)),(11,.pointer (some ⟨(p5 8).N,0,none⟩)),(43,.bool false),(103,.bool false)]) (by kernel_rfl) (fun _ _=>by kernel_rfl) (fun _=>by kernel_rfl) (fun _=>by kernel_rfl) (fun p6=>?_) (fun p6 W6 T hF hK=>?_)
 ·iterate 8 refine ok_v (by kernel_rfl) ?_
  refine ok_L (by kernel_rfl) (by kernel_rfl) (by kernel_rfl) ?_
  iterate 2 refine ok_v (by kernel_rfl) ?_
  refine ok_vb (decide_eq_false (show ¬ (s1.size:Int) > (n:Int) by omega)) (by kernel_rfl) ?_
  iterate 2 refine ok_v (by kernel_rfl) ?_
  iterate 2 refine ok_L (by kernel_rfl) (by kernel_rfl) (by kernel_rfl) ?_
  iterate 2 refine ok_v (by kernel_rfl) ?_
  refine ok_L (by kernel_rfl) (by kernel_rfl) (by kernel_rfl) ?_
  refine ok_v (by kernel_rfl) ?_
  refine ok_L (by kernel_rfl) (by kernel_rfl) (by kernel_rfl) ?_
  refine ok_v (by kernel_rfl) ?_
  refine ok_vi (wr64 (x:=x+(s.size:Int)) (by omega) (by omega)) (by kernel_rfl) ?_
  iterate 2 refine ok_v (by kernel_rfl) ?_
  refine ok_L (by kernel_rfl) (by kernel_rfl) (by kernel_rfl) ?_
  refine ok_v (by kernel_rfl) ?_
  refine ok_vi ((imin _ _).trans hp) (by kernel_rfl) ?_
  refine ok_vi ((wr64 (x:=x+(s.size:Int) - p) (by omega) (by omega)).trans hv) (by kernel_rfl) ?_
  refine ok_v (by kernel_rfl) ?_
  refine ok_c (fun W cx=>as_v (unhide HN _)) (by kernel_rfl) ?_
  iterate 3 refine ok_v (by kernel_rfl) ?_
  iterate 2 refine ok_L (by kernel_rfl) (by kernel_rfl) (by kernel_rfl) ?_
  iterate 2 refine ok_v (by kernel_rfl) ?_
  refine ok_vi ((wr64 (x:=0 - (n:Int)) (by omega) (by omega)).trans (by omega)) (by kernel_rfl) ?_
  refine ok_v (by kernel_rfl) ?_
  refine ok_c (fun W cx=>as_v (unhide HM _)) (by kernel_rfl) ?_
  iterate 2 refine ok_v (by kernel_rfl) ?_
  exact ok_nil
 replace hS:=SymF.fb hS hF [0,1,2] [⟨(p1 0).N,#[.bool true,.string s,.int .i64 x],23,true⟩,⟨(p4 8).N,#[.bool true,.string s1,.int .i64 x1],23,true⟩,⟨(p5 8).N,#[.bool true,.string s2,.int .i64 x2],23,true⟩] (by kernel_rfl) (by kernel_rfl)
 replace hG:=hF.gx
 clear hF
 have z6:=hS.fr.size
 refine wp_cond_false (hK.ev 103 (by kernel_rfl) _ (by kernel_rfl)) ?_
 refine wp_skip ?_
 refine then_n ?_
 refine wp_symQ hS hG hK (fun p7=>[.v 104 (.int .u8 (md:Int)),.v 14 (.int .u8 (md:Int))]) (fun p7=>[(1,.int .i64 (n:Int)),(2,.int .u8 (md:Int)),(3,.pointer (some ⟨(p1 0).N,0,none⟩)),(6,.bool false),(7,.bool true),(8,.pointer (some ⟨(p4 8).N,0,none⟩)),(11,.pointer (some ⟨(p5 8).N,0,none⟩)),(14,.int .u8 (md:Int)),(43,.bool false),(103,.bool false)]) (by kernel_rfl) (fun _ _=>by kernel_rfl) (fun _=>by kernel_rfl) (fun _=>by kernel_rfl) (fun p7=>?_) (fun p7 W7 T hF hK=>?_)
 ·iterate 2 refine ok_v (by kernel_rfl) ?_
  exact ok_nil
 replace hS:=SymF.fb hS hF [0,1,2] [⟨(p1 0).N,#[.bool true,.string s,.int .i64 x],23,true⟩,⟨(p4 8).N,#[.bool true,.string s1,.int .i64 x1],23,true⟩,⟨(p5 8).N,#[.bool true,.string s2,.int .i64 x2],23,true⟩] (by kernel_rfl) (by kernel_rfl)
 replace hG:=hF.gx
 clear hF
 have z7:=hS.fr.size
 refine wp_seq ?_
 refine wp_symQ hS hG hK (fun p8=>[.v 105 (.int .u8 (md:Int)),.v 106 (.bool true)]) (fun p8=>[(1,.int .i64 (n:Int)),(2,.int .u8 (md:Int)),(3,.pointer (some ⟨(p1 0).N,0,none⟩)),(6,.bool false),(7,.bool true),(8,.pointer (some ⟨(p4 8).N,0,none⟩)),(11,.pointer (some ⟨(p5 8).N,0,none⟩)),(14,.int .u8 (md:Int)),(43,.bool false),(103,.bool false),(106,.bool true)]) (by kernel_rfl) (fun _ _=>by kernel_rfl) (fun _=>by kernel_rfl) (fun _=>by kernel_rfl) (fun p8=>?_) (fun p8 W8 T hF hK=>?_)
 ·refine ok_v (by kernel_rfl) ?_
  refine ok_vb (decide_eq_true (show (md:Int) ≥ 3 by omega)) (by kernel_rfl) ?_
  exact ok_nil
 replace hS:=SymF.fb hS hF [0,1,2] [⟨(p1 0).N,#[.bool true,.string s,.int .i64 x],23,true⟩,⟨(p4 8).N,#[.bool true,.string s1,.int .i64 x1],23,true⟩,⟨(p5 8).N,#[.bool true,.string s2,.int .i64 x2],23,true⟩] (by kernel_rfl) (by kernel_rfl)
 replace hG:=hF.gx
 clear hF
 have z8:=hS.fr.size
 refine wp_cond_true (hK.ev 106 (by kernel_rfl) _ (by kernel_rfl)) ?_
 refine wp_symG hS hG hK (fun p9=>[.v 107 (.int .u8 (md:Int)),.v 108 (.int .u8 (mm:Int)),.v 14 (.int .u8 (mm:Int))]) (fun p9=>[(1,.int .i64 (n:Int)),(2,.int .u8 (md:Int)),(3,.pointer (some ⟨(p1 0).N,0,none⟩)),(6,.bool false),(7,.bool true),(8,.pointer (some ⟨(p4 8).N,0,none⟩)),(11,.pointer (some ⟨(p5 8).N,0,none⟩)),(14,.int .u8 (mm:Int)),(43,.bool false),(103,.bool false),(106,.bool true)]) (by kernel_rfl) (fun _ _=>by kernel_rfl) (fun _=>by kernel_rfl) (fun _=>by kernel_rfl) (fun p9=>?_) (fun p9 W9 T hF hK=>?_)
 ·refine ok_v (by kernel_rfl) ?_
  refine ok_vi ((wrU8 (x:=7 - (md:Int)) (by omega) (by omega)).trans (by omega)) (by kernel_rfl) ?_
  refine ok_v (by kernel_rfl) ?_
  exact ok_nil
 replace hS:=SymF.fb hS hF [0,1,2] [⟨(p1 0).N,#[.bool true,.string s,.int .i64 x],23,true⟩,⟨(p4 8).N,#[.bool true,.string s1,.int .i64 x1],23,true⟩,⟨(p5 8).N,#[.bool true,.string s2,.int .i64 x2],23,true⟩] (by kernel_rfl) (by kernel_rfl)
 replace hG:=hF.gx
 clear hF
 have z9:=hS.fr.size
 refine then_n ?_
 refine wp_symQ hS hG hK (fun p10=>[.l 109 (.agg #[.bool true,.string s,.int .i64 x]) 0 0,.n 15 #[.bool false,.string ⟨#[]⟩,.int .i64 0] 23,.p 1001 0 [.bool true,.string s,.int .i64 x]]) (fun p10=>[(1,.int .i64 (n:Int)),(2,.int .u8 (md:Int)),(3,.pointer (some ⟨(p1 0).N,0,none⟩)),(6,.bool false),(7,.bool true),(8,.pointer (some ⟨(p4 8).N,0,none⟩)),(11,.pointer (some ⟨(p5 8).N,0,none⟩)),(14,.int .u8 (mm:Int)),(15,.pointer (some ⟨(p10 1).N,0,none⟩)),(43,.bool false),(103,.bool false),(106,.bool true)]) (by kernel_rfl) (fun _ _=>by kernel_rfl) (fun _=>by kernel_rfl) (fun _=>by kernel_rfl) (fun p10=>?_) (fun p10 W10 T hF hK=>?_)
 ·refine ok_L (by kernel_rfl) (by kernel_rfl) (by kernel_rfl) ?_
  refine ok_n (fun _=>by kernel_rfl) ?_
  refine ok_P (by kernel_rfl) (by kernel_rfl) (by kernel_rfl) ?_
  exact ok_nil
 replace hS:=SymF.fb hS hF [0,1,2,1001] [⟨(p1 0).N,#[.bool true,.string s,.int .i64 x],23,true⟩,⟨(p4 8).N,#[.bool true,.string s1,.int .i64 x1],23,true⟩,⟨(p5 8).N,#[.bool true,.string s2,.int .i64 x2],23,true⟩,⟨(p10 1).N,#[.bool true,.string s,.int .i64 x],23,true⟩] (by kernel_rfl) (by kernel_rfl)
 replace hG:=hF.gx
 clear hF
 have z10:=hS.fr.size
 refine wp_symQ hS hG hK (fun p11=>[.v 110 (.pointer (some ⟨(p1 0).N,0,none⟩)),.l 111 (.bool true) 0 0,.v 112 (.bool false),.v 113 (.pointer (some ⟨(p10 1).N,0,none⟩)),.p 3 0 [.bool false]]) (fun p11=>[(1,.int .i64 (n:Int)),(2,.int .u8 (md:Int)),(6,.bool false),(7,.bool true),(8,.pointer (some ⟨(p4 8).N,0,none⟩)),(11,.pointer (some ⟨(p5 8).N,0,none⟩)),(14,.int .u8 (mm:Int)),(15,.pointer (some ⟨(p10 1).N,0,none⟩)),(43,.bool false),(103,.bool false),(106,.bool true)]) (by kernel_rfl) (fun _ _=>by kernel_rfl) (fun _=>by kernel_rfl) (fun _=>by kernel_rfl) (fun p11=>?_) (fun p11 W11 T hF hK=>?_)
 ·refine ok_v (by kernel_rfl) ?_
  refine ok_L (by kernel_rfl) (by kernel_rfl) (by kernel_rfl) ?_
  iterate 2 refine ok_v (by kernel_rfl) ?_
  refine ok_P (by kernel_rfl) (by kernel_rfl) (by kernel_rfl) ?_
  exact ok_nil
 replace hS:=SymF.fb hS hF [1,2,3] [⟨(p4 8).N,#[.bool true,.string s1,.int .i64 x1],23,true⟩,⟨(p5 8).N,#[.bool true,.string s2,.int .i64 x2],23,true⟩,⟨(p10 1).N,#[.bool false,.string s,.int .i64 x],23,true⟩] (by kernel_rfl) (by kernel_rfl)
 replace hG:=hF.gx
 clear hF
 have z11:=hS.fr.size
 refine wp_symQ hS hG hK (fun p12=>[.l 115 (.agg #[.bool false,.string s,.int .i64 x]) 2 0,.v 116 (.int .i64 (n:Int)),.v 117 (.int .u8 (mm:Int)),.c (some 118) (cV (.tuple #[.agg #[.bool false,.string s1,.int .i64 x1],.bool b3,.int .i64 0])),.v 114 (.tuple #[.agg #[.bool false,.string s1,.int .i64 x1],.bool b3,.int .i64 0]),.v 119 (.agg #[.bool false,.string s1,.int .i64 x1]),.v 120 (.bool b3),.v 121 (.int .i64 0),.n 16 #[.bool false,.string ⟨#[]⟩,.int .i64 0] 23,.p 1008 0 [.bool false,.string s1,.int .i64 x1],.v 17 (.bool b3),.v 18 (.int .i64 0)]) (fun p12=>[(1,.int .i64 (n:Int)),(2,.int .u8 (md:Int)),(6,.bool false),(7,.bool true),(8,.pointer (some ⟨(p4 8).N,0,none⟩)),(11,.pointer (some ⟨(p5 8).N,0,none⟩)),(14,.int .u8 (mm:Int)),(15,.pointer (some ⟨(p10 1).N,0,none⟩)),(16,.pointer (some ⟨(p12 8).N,0,none⟩)),(18,.int .i64 0),(43,.bool false),(103,.bool false),(106,.bool true)]) (by kernel_rfl) (fun _ _=>by kernel_rfl) (fun _=>by kernel_rfl) (fun _=>by kernel_rfl) (fun p12=>?_) (fun p12 W12 T hF hK=>?_)
 ·refine ok_L (by kernel_rfl) (by kernel_rfl) (by kernel_rfl) ?_
  iterate 2 refine ok_v (by kernel_rfl) ?_
  refine ok_c (fun W cx=>as_v (unhide HS _)) (by kernel_rfl) ?_
  iterate 4 refine ok_v (by kernel_rfl) ?_
  refine ok_n (fun _=>by kernel_rfl) ?_
  refine ok_P (by kernel_rfl) (by kernel_rfl) (by kernel_rfl) ?_
  iterate 2 refine ok_v (by kernel_rfl) ?_
  exact ok_nil
 replace hS:=SymF.fb hS hF [0,1,2,1008] [⟨(p4 8).N,#[.bool true,.string s1,.int .i64 x1],23,true⟩,⟨(p5 8).N,#[.bool true,.string s2,.int .i64 x2],23,true⟩,⟨(p10 1).N,#[.bool false,.string s,.int .i64 x],23,true⟩,⟨(p12 8).N,#[.bool false,.string s1,.int .i64 x1],23,true⟩] (by kernel_rfl) (by kernel_rfl)
 replace hG:=hF.gx
 clear hF
 have z12:=hS.fr.size
 refine wp_symQ hS hG hK (fun p13=>[.l 123 (.agg #[.bool false,.string s,.int .i64 x]) 2 0,.v 124 (.int .i64 (n:Int)),.v 125 (.int .u8 (mm:Int)),.c (some 126) (cV (.tuple #[.agg #[.bool false,.string s2,.int .i64 x2],.bool b4,.int .i64 0])),.v 122 (.tuple #[.agg #[.bool false,.string s2,.int .i64 x2],.bool b4,.int .i64 0]),.v 127 (.agg #[.bool false,.string s2,.int .i64 x2]),.v 128 (.bool b4),.v 129 (.int .i64 0),.n 19 #[.bool false,.string ⟨#[]⟩,.int .i64 0] 23,.p 1008 0 [.bool false,.string s2,.int .i64 x2],.v 20 (.bool b4),.v 21 (.int .i64 0)]) (fun p13=>[(1,.int .i64 (n:Int)),(2,.int .u8 (md:Int)),(6,.bool false),(7,.bool true),(8,.pointer (some ⟨(p4 8).N,0,none⟩)),(11,.pointer (some ⟨(p5 8).N,0,none⟩)),(16,.pointer (some ⟨(p12 8).N,0,none⟩)),(18,.int .i64 0),(19,.pointer (some ⟨(p13 8).N,0,none⟩)),(21,.int .i64 0),(43,.bool false),(103,.bool false),(106,.bool true)]) (by kernel_rfl) (fun _ _=>by kernel_rfl) (fun _=>by kernel_rfl) (fun _=>by kernel_rfl) (fun p13=>?_) (fun p13 W13 T hF hK=>?_)
 ·refine ok_L (by kernel_rfl) (by kernel_rfl) (by kernel_rfl) ?_
  iterate 2 refine ok_v (by kernel_rfl) ?_
  refine ok_c (fun W cx=>as_v (unhide HQ _)) (by kernel_rfl) ?_
  iterate 4 refine ok_v (by kernel_rfl) ?_
  refine ok_n (fun _=>by kernel_rfl) ?_
  refine ok_P (by kernel_rfl) (by kernel_rfl) (by kernel_rfl) ?_
  iterate 2 refine ok_v (by kernel_rfl) ?_
  exact ok_nil
 replace hS:=SymF.fb hS hF [0,1,3,1008] [⟨(p4 8).N,#[.bool true,.string s1,.int .i64 x1],23,true⟩,⟨(p5 8).N,#[.bool true,.string s2,.int .i64 x2],23,true⟩,⟨(p12 8).N,#[.bool false,.string s1,.int .i64 x1],23,true⟩,⟨(p13 8).N,#[.bool false,.string s2,.int .i64 x2],23,true⟩] (by kernel_rfl) (by kernel_rfl)
 replace hG:=hF.gx
 clear hF
 have z13:=hS.fr.size
 refine wp_symQ hS hG hK (fun p14=>[.v 130 (.pointer (some ⟨(p12 8).N,0,none⟩)),.l 131 (.bool false) 2 0,.v 132 (.bool true),.v 133 (.pointer (some ⟨(p13 8).N,0,none⟩)),.l 134 (.bool false) 3 0,.v 135 (.bool true),.v 136 (.pointer (some ⟨(p12 8).N,0,none⟩)),.p 2 0 [.bool true],.v 137 (.pointer (some ⟨(p13 8).N,0,none⟩)),.p 3 0 [.bool true]]) (fun p14=>[(1,.int .i64 (n:Int)),(2,.int .u8 (md:Int)),(6,.bool false),(7,.bool true),(8,.pointer (some ⟨(p4 8).N,0,none⟩)),(11,.pointer (some ⟨(p5 8).N,0,none⟩)),(16,.pointer (some ⟨(p12 8).N,0,none⟩)),(18,.int .i64 0),(19,.pointer (some ⟨(p13 8).N,0,none⟩)),(21,.int .i64 0),(43,.bool false),(103,.bool false),(106,.bool true)]) (by kernel_rfl) (fun _ _=>by kernel_rfl) (fun _=>by kernel_rfl) (fun _=>by kernel_rfl) (fun p14=>?_) (fun p14 W14 T hF hK=>?_)
 ·refine ok_v (by kernel_rfl) ?_
  refine ok_L (by kernel_rfl) (by kernel_rfl) (by kernel_rfl) ?_
  iterate 2 refine ok_v (by kernel_rfl) ?_
  refine ok_L (by kernel_rfl) (by kernel_rfl) (by kernel_rfl) ?_
  iterate 2 refine ok_v (by kernel_rfl) ?_
  refine ok_P (by kernel_rfl) (by kernel_rfl) (by kernel_rfl) ?_
  refine ok_v (by kernel_rfl) ?_
  refine ok_P (by kernel_rfl) (by kernel_rfl) (by kernel_rfl) ?_
  exact ok_nil
 replace hS:=SymF.fb hS hF [0,1,2,3] [⟨(p4 8).N,#[.bool true,.string s1,.int .i64 x1],23,true⟩,⟨(p5 8).N,#[.bool true,.string s2,.int .i64 x2],23,true⟩,⟨(p12 8).N,#[.bool true,.string s1,.int .i64 x1],23,true⟩,⟨(p13 8).N,#[.bool true,.string s2,.int .i64 x2],23,true⟩] (by kernel_rfl) (by kernel_rfl)
 replace hG:=hF.gx
 clear hF
 have z14:=hS.fr.size
 refine wp_symQ hS hG hK (fun p15=>[.l 139 (.agg #[.bool true,.string s1,.int .i64 x1]) 0 0,.v 140 (.int .i64 (n:Int)),.v 141 (.int .u8 (md:Int)),.c (some 142) (cV (.tuple #[.agg #[.bool true,.string s1,.int .i64 x1],.bool true,.int .i64 0])),.v 138 (.tuple #[.agg #[.bool true,.string s1,.int .i64 x1],.bool true,.int .i64 0]),.v 143 (.agg #[.bool true,.string s1,.int .i64 x1]),.v 144 (.bool true),.v 145 (.int .i64 0),.n 22 #[.bool false,.string ⟨#[]⟩,.int .i64 0] 23,.p 1008 0 [.bool true,.string s1,.int .i64 x1],.v 23 (.bool true),.v 24 (.int .i64 0)]) (fun p15=>[(1,.int .i64 (n:Int)),(2,.int .u8 (md:Int)),(6,.bool false),(7,.bool true),(8,.pointer (some ⟨(p4 8).N,0,none⟩)),(11,.pointer (some ⟨(p5 8).N,0,none⟩)),(16,.pointer (some ⟨(p12 8).N,0,none⟩)),(18,.int .i64 0),(19,.pointer (some ⟨(p13 8).N,0,none⟩)),(21,.int .i64 0),(22,.pointer (some ⟨(p15 8).N,0,none⟩)),(23,.bool true),(24,.int .i64 0),(43,.bool false),(103,.bool false),(106,.bool true)]) (by kernel_rfl) (fun _ _=>by kernel_rfl) (fun _=>by kernel_rfl) (fun _=>by kernel_rfl) (fun p15=>?_) (fun p15 W15 T hF hK=>?_)
 ·refine ok_L (by kernel_rfl) (by kernel_rfl) (by kernel_rfl) ?_
  iterate 2 refine ok_v (by kernel_rfl) ?_
  refine ok_c (fun W cx=>as_v (unhide HT _)) (by kernel_rfl) ?_
  iterate 4 refine ok_v (by kernel_rfl) ?_
  refine ok_n (fun _=>by kernel_rfl) ?_
  refine ok_P (by kernel_rfl) (by kernel_rfl) (by kernel_rfl) ?_
  iterate 2 refine ok_v (by kernel_rfl) ?_
  exact ok_nil
 replace hS:=SymF.fb hS hF [0,1,2,3,1008] [⟨(p4 8).N,#[.bool true,.string s1,.int .i64 x1],23,true⟩,⟨(p5 8).N,#[.bool true,.string s2,.int .i64 x2],23,true⟩,⟨(p12 8).N,#[.bool true,.string s1,.int .i64 x1],23,true⟩,⟨(p13 8).N,#[.bool true,.string s2,.int .i64 x2],23,true⟩,⟨(p15 8).N,#[.bool true,.string s1,.int .i64 x1],23,true⟩] (by kernel_rfl) (by kernel_rfl)
 replace hG:=hF.gx
 clear hF
 have z15:=hS.fr.size
 refine wp_symQ hS hG hK (fun p16=>[.l 147 (.agg #[.bool true,.string s2,.int .i64 x2]) 1 0,.v 148 (.int .i64 (n:Int)),.v 149 (.int .u8 (md:Int)),.c (some 150) (cV (.tuple #[.agg #[.bool true,.string s2,.int .i64 x2],.bool true,.int .i64 0])),.v 146 (.tuple #[.agg #[.bool true,.string s2,.int .i64 x2],.bool true,.int .i64 0]),.v 151 (.agg #[.bool true,.string s2,.int .i64 x2]),.v 152 (.bool true),.v 153 (.int .i64 0),.n 25 #[.bool false,.string ⟨#[]⟩,.int .i64 0] 23,.p 1008 0 [.bool true,.string s2,.int .i64 x2],.v 26 (.bool true),.v 27 (.int .i64 0)]) (fun p16=>[(6,.bool false),(7,.bool true),(8,.pointer (some ⟨(p4 8).N,0,none⟩)),(11,.pointer (some ⟨(p5 8).N,0,none⟩)),(16,.pointer (some ⟨(p12 8).N,0,none⟩)),(18,.int .i64 0),(19,.pointer (some ⟨(p13 8).N,0,none⟩)),(21,.int .i64 0),(22,.pointer (some ⟨(p15 8).N,0,none⟩)),(23,.bool true),(24,.int .i64 0),(25,.pointer (some ⟨(p16 8).N,0,none⟩)),(26,.bool true),(27,.int .i64 0),(43,.bool false),(103,.bool false),(106,.bool true)]) (by kernel_rfl) (fun _ _=>by kernel_rfl) (fun _=>by kernel_rfl) (fun _=>by kernel_rfl) (fun p16=>?_) (fun p16 W16 T hF hK=>?_)
 ·refine ok_L (by kernel_rfl) (by kernel_rfl) (by kernel_rfl) ?_
  iterate 2 refine ok_v (by kernel_rfl) ?_
  refine ok_c (fun W cx=>as_v (unhide HU _)) (by kernel_rfl) ?_
  iterate 4 refine ok_v (by kernel_rfl) ?_
  refine ok_n (fun _=>by kernel_rfl) ?_
  refine ok_P (by kernel_rfl) (by kernel_rfl) (by kernel_rfl) ?_
  iterate 2 refine ok_v (by kernel_rfl) ?_
  exact ok_nil
 replace hS:=SymF.fb hS hF [0,1,2,3,4,1008] [⟨(p4 8).N,#[.bool true,.string s1,.int .i64 x1],23,true⟩,⟨(p5 8).N,#[.bool true,.string s2,.int .i64 x2],23,true⟩,⟨(p12 8).N,#[.bool true,.string s1,.int .i64 x1],23,true⟩,⟨(p13 8).N,#[.bool true,.string s2,.int .i64 x2],23,true⟩,⟨(p15 8).N,#[.bool true,.string s1,.int .i64 x1],23,true⟩,⟨(p16 8).N,#[.bool true,.string s2,.int .i64 x2],23,true⟩] (by kernel_rfl) (by kernel_rfl)
 replace hG:=hF.gx
 clear hF
 have z16:=hS.fr.size
 refine wp_symQ hS hG hK (fun p17=>[.v 154 (.bool true),.v 155 (.bool true),.v 156 (.int .i64 0),.v 157 (.bool true),.v 158 (.bool true),.v 159 (.bool true),.v 160 (.int .i64 0),.v 161 (.bool true),.v 162 (.bool true),.v 163 (.bool true),.v 164 (.int .i64 0),.v 165 (.bool true),.v 166 (.bool true),.v 167 (.bool true),.v 168 (.int .i64 0),.v 169 (.bool true),.v 170 (.bool true),.v 171 (.bool true),.l 172 (.agg #[.bool true,.string s1,.int .i64 x1]) 2 0,.l 173 (.agg #[.bool true,.string s1,.int .i64 x1]) 0 0,.v 174 (.bool true),.v 175 (.bool true),.v 176 (.bool true),.l 177 (.agg #[.bool true,.string s2,.int .i64 x2]) 3 0,.l 178 (.agg #[.bool true,.string s2,.int .i64 x2]) 1 0,.v 179 (.bool true),.v 180 (.bool true),.v 181 (.bool true),.v 182 (.bool true),.v 183 (.bool true),.v 184 (.bool true),.v 185 (.bool true),.v 186 (.bool true),.v 187 (.bool true),.l 188 (.agg #[.bool true,.string s1,.int .i64 x1]) 4 0,.l 189 (.agg #[.bool true,.string s1,.int .i64 x1]) 0 0,.v 190 (.bool true),.v 191 (.bool true),.v 192 (.bool true),.l 193 (.agg #[.bool true,.string s2,.int .i64 x2]) 5 0,.l 194 (.agg #[.bool true,.string s2,.int .i64 x2]) 1 0,.v 195 (.bool true),.v 196 (.bool true),.v 6 (.bool true)]) (fun p17=>[(6,.bool true),(7,.bool true),(43,.bool false),(103,.bool false),(106,.bool true)]) (by kernel_rfl) (fun _ _=>by kernel_rfl) (fun _=>by kernel_rfl) (fun _=>by kernel_rfl) (fun p17=>?_) (fun p17 W17 T hF hK=>?_)
 ·iterate 18 refine ok_v (by kernel_rfl) ?_
  iterate 2 refine ok_L (by kernel_rfl) (by kernel_rfl) (by kernel_rfl) ?_
  refine ok_vr (script_eqdec true s1 x1) (by kernel_rfl) ?_
  iterate 2 refine ok_v (by kernel_rfl) ?_
  iterate 2 refine ok_L (by kernel_rfl) (by kernel_rfl) (by kernel_rfl) ?_
  refine ok_vr (script_eqdec true s2 x2) (by kernel_rfl) ?_
  iterate 8 refine ok_v (by kernel_rfl) ?_
  iterate 2 refine ok_L (by kernel_rfl) (by kernel_rfl) (by kernel_rfl) ?_
  refine ok_vr (script_eqdec true s1 x1) (by kernel_rfl) ?_
  iterate 2 refine ok_v (by kernel_rfl) ?_
  iterate 2 refine ok_L (by kernel_rfl) (by kernel_rfl) (by kernel_rfl) ?_
  refine ok_vr (script_eqdec true s2 x2) (by kernel_rfl) ?_
  iterate 2 refine ok_v (by kernel_rfl) ?_
  exact ok_nil
 replace hS:=SymF.fb hS hF [] [] (by kernel_rfl) (by kernel_rfl)
 replace hG:=hF.gx
 clear hF
 have z17:=hS.fr.size
 refine wp_ret ?_
 exact sym_end hS hK (.bool true) [] [] (by kernel_rfl) (by kernel_rfl) ⟨rfl,hS.fr⟩
theorem nrl_fl (w:World) (s:ByteArray) (x:Int) (n md:Nat) (s1:ByteArray) (x1:Int) (s2:ByteArray) (x2:Int) (b1 b2 b3 b4:Bool) (v p:Int) (hs:s.size≤3000) (hx0:-3000≤x) (hx1:x≤3000) (h1:1≤n) (h2:n≤2000) (h3:md≤4) (hs1:s1.size≤n) (hp:min (n:Int) (s.size:Int) = p) (hv:x+(s.size:Int) - p = v) (hm:md < 3) (HA:Hid (∀ W:World,Calls Tryz.prog 6 #[] W fun e W'=>e = .returned (.bool true)∧Below W.heap.size W W')) (HC:Hid (∀ W:World,Calls Tryz.prog 7 #[.agg #[.bool false,.string s,.int .i64 x],.int .i64 3000,.int .i64 3000] W fun e W'=>e = .returned (.bool true)∧Below W.heap.size W W')) (HR:Hid (∀ W:World,Calls Tryz.prog 17 #[.agg #[.bool false,.string s,.int .i64 x],.int .i64 (n:Int),.int .u8 (md:Int)] W fun e W'=>e = .returned (.tuple #[.agg #[.bool false,.string s1,.int .i64 x1],.bool b1,.int .i64 0])∧Below W.heap.size W W')) (HP:Hid (∀ W:World,Calls Tryz.prog 18 #[.agg #[.bool false,.string s,.int .i64 x],.int .i64 (n:Int),.int .u8 (md:Int)] W fun e W'=>e = .returned (.tuple #[.agg #[.bool false,.string s2,.int .i64 x2],.bool b2,.int .i64 0])∧Below W.heap.size W W')) (HS:Hid (∀ W:World,Calls Tryz.prog 17 #[.agg #[.bool true,.string s,.int .i64 x],.int .i64 (n:Int),.int .u8 (md:Int)] W fun e W'=>e = .returned (.tuple #[.agg #[.bool true,.string s1,.int .i64 x1],.bool b3,.int .i64 0])∧Below W.heap.size W W')) (HQ:Hid (∀ W:World,Calls Tryz.prog 18 #[.agg #[.bool true,.string s,.int .i64 x],.int .i64 (n:Int),.int .u8 (md:Int)] W fun e W'=>e = .returned (.tuple #[.agg #[.bool true,.string s2,.int .i64 x2],.bool b4,.int .i64 0])∧Below W.heap.size W W')) (HT:Hid (∀ W:World,Calls Tryz.prog 17 #[.agg #[.bool false,.string s1,.int .i64 x1],.int .i64 (n:Int),.int .u8 (md:Int)] W fun e W'=>e = .returned (.tuple #[.agg #[.bool false,.string s1,.int .i64 x1],.bool true,.int .i64 0])∧Below W.heap.size W W')) (HU:Hid (∀ W:World,Calls Tryz.prog 18 #[.agg #[.bool false,.string s2,.int .i64 x2],.int .i64 (n:Int),.int .u8 (md:Int)] W fun e W'=>e = .returned (.tuple #[.agg #[.bool false,.string s2,.int .i64 x2],.bool true,.int .i64 0])∧Below W.heap.size W W')) (HN:Hid (∀ W:World,Calls Tryz.prog 19 #[.agg #[.bool false,.string s,.int .i64 x],.agg #[.bool false,.string s1,.int .i64 x1],.bool b1,.int .i64 v,.int .u8 (md:Int)] W fun e W'=>e = .returned (.bool true)∧Below W.heap.size W W')) (HM:Hid (∀ W:World,Calls Tryz.prog 19 #[.agg #[.bool false,.string s,.int .i64 x],.agg #[.bool false,.string s2,.int .i64 x2],.bool b2,.int .i64 (-(n:Int)),.int .u8 (md:Int)] W fun e W'=>e = .returned (.bool true)∧Below W.heap.size W W')) :
  Calls Tryz.prog 5 #[.agg #[.bool false,.string s,.int .i64 x],.int .i64 (n:Int),.int .u8 (md:Int)] w fun en w'=>en = .returned (.bool true)∧Below w.heap.size w w':=by
 refine calls_sym Tryz.func5 rfl (by kernel_rfl) fun T hK=>?_
 replace hK:Kn T _ [(0,.agg #[.bool false,.string s,.int .i64 x]),(1,.int .i64 (n:Int)),(2,.int .u8 (md:Int))]:=hK
 have hS:=Fb.begin w
 have hG:GsAt [] w:=trivial
 refine wp_symQ hS hG hK (fun p1=>[.n 3 #[.bool false,.string s,.int .i64 x] 23,.v 6 (.bool false)]) (fun p1=>[(1,.int .i64 (n:Int)),(2,.int .u8 (md:Int)),(3,.pointer (some ⟨(p1 0).N,0,none⟩)),(6,.bool false)]) (by kernel_rfl) (fun _ _=>by kernel_rfl) (fun _=>by kernel_rfl) (fun _=>by kernel_rfl) (fun p1=>?_) (fun p1 W1 T hF hK=>?_)
 ·refine ok_n (fun _=>by kernel_rfl) ?_
  refine ok_v (by kernel_rfl) ?_
  exact ok_nil
 replace hS:=SymF.fb hS hF [1000] [⟨(p1 0).N,#[.bool false,.string s,.int .i64 x],23,true⟩] (by kernel_rfl) (by kernel_rfl)
 replace hG:=hF.gx
 clear hF
 have z1:=hS.fr.size
 refine wp_symQ hS hG hK (fun p2=>[.c (some 28) (cV (.bool true)),.v 7 (.bool true)]) (fun p2=>[(1,.int .i64 (n:Int)),(2,.int .u8 (md:Int)),(3,.pointer (some ⟨(p1 0).N,0,none⟩)),(6,.bool false),(7,.bool true)]) (by kernel_rfl) (fun _ _=>by kernel_rfl) (fun _=>by kernel_rfl) (fun _=>by kernel_rfl) (fun p2=>?_) (fun p2 W2 T hF hK=>?_)
 ·refine ok_c (fun W cx=>as_v (unhide HA _)) (by kernel_rfl) ?_
  refine ok_v (by kernel_rfl) ?_
  exact ok_nil
 replace hS:=SymF.fb hS hF [0] [⟨(p1 0).N,#[.bool false,.string s,.int .i64 x],23,true⟩] (by kernel_rfl) (by kernel_rfl)
 replace hG:=hF.gx
 clear hF
 have z2:=hS.fr.size
 refine wp_seq ?_
 refine wp_symQ hS hG hK (fun p3=>[.l 29 (.agg #[.bool false,.string s,.int .i64 x]) 0 0,.c (some 30) (cV (.bool true)),.v 31 (.bool false),.v 32 (.bool false),.v 33 (.int .i64 (n:Int)),.v 34 (.bool false),.v 35 (.bool false),.v 36 (.bool false),.v 37 (.int .i64 (n:Int)),.v 38 (.bool false),.v 39 (.bool false),.v 40 (.bool false),.v 41 (.int .u8 (md:Int)),.v 42 (.bool false),.v 43 (.bool false)]) (fun p3=>[(1,.int .i64 (n:Int)),(2,.int .u8 (md:Int)),(3,.pointer (some ⟨(p1 0).N,0,none⟩)),(6,.bool false),(7,.bool true),(43,.bool false)]) (by kernel_rfl) (fun _ _=>by kernel_rfl) (fun _=>by kernel_rfl) (fun _=>by kernel_rfl) (fun p3=>?_) (fun p3 W3 T hF hK=>?_)
 ·refine ok_L (by kernel_rfl) (by kernel_rfl) (by kernel_rfl) ?_
  refine ok_c (fun W cx=>as_v (unhide HC _)) (by kernel_rfl) ?_
  iterate 3 refine ok_v (by kernel_rfl) ?_
  refine ok_vb (decide_eq_false (show ¬ (n:Int) < 1 by omega)) (by kernel_rfl) ?_
  iterate 3 refine ok_v (by kernel_rfl) ?_
  refine ok_vb (decide_eq_false (show ¬ (n:Int) > 2000 by omega)) (by kernel_rfl) ?_
  iterate 3 refine ok_v (by kernel_rfl) ?_
  refine ok_vb (decide_eq_false (show ¬ (md:Int) > 4 by omega)) (by kernel_rfl) ?_
  refine ok_v (by kernel_rfl) ?_
  exact ok_nil
 replace hS:=SymF.fb hS hF [0] [⟨(p1 0).N,#[.bool false,.string s,.int .i64 x],23,true⟩] (by kernel_rfl) (by kernel_rfl)
 replace hG:=hF.gx
 clear hF
 have z3:=hS.fr.size
 refine wp_cond_false (hK.ev 43 (by kernel_rfl) _ (by kernel_rfl)) ?_
 refine wp_skip ?_
 refine then_n ?_
 refine wp_symQ hS hG hK (fun p4=>[.l 46 (.agg #[.bool false,.string s,.int .i64 x]) 0 0,.v 47 (.int .i64 (n:Int)),.v 48 (.int .u8 (md:Int)),.c (some 49) (cV (.tuple #[.agg #[.bool false,.string s1,.int .i64 x1],.bool b1,.int .i64 0])),.v 45 (.tuple #[.agg #[.bool false,.string s1,.int .i64 x1],.bool b1,.int .i64 0]),.v 50 (.agg #[.bool false,.string s1,.int .i64 x1]),.v 51 (.bool b1),.v 52 (.int .i64 0),.n 8 #[.bool false,.string ⟨#[]⟩,.int .i64 0] 23,.p 1008 0 [.bool false,.string s1,.int .i64 x1],.v 9 (.bool b1),.v 10 (.int .i64 0)]) (fun p4=>[(1,.int .i64 (n:Int)),(2,.int .u8 (md:Int)),(3,.pointer (some ⟨(p1 0).N,0,none⟩)),(6,.bool false),(7,.bool true),(8,.pointer (some ⟨(p4 8).N,0,none⟩)),(9,.bool b1),(10,.int .i64 0),(43,.bool false)]) (by kernel_rfl) (fun _ _=>by kernel_rfl) (fun _=>by kernel_rfl) (fun _=>by kernel_rfl) (fun p4=>?_) (fun p4 W4 T hF hK=>?_)
 ·refine ok_L (by kernel_rfl) (by kernel_rfl) (by kernel_rfl) ?_
  iterate 2 refine ok_v (by kernel_rfl) ?_
  refine ok_c (fun W cx=>as_v (unhide HR _)) (by kernel_rfl) ?_
  iterate 4 refine ok_v (by kernel_rfl) ?_
  refine ok_n (fun _=>by kernel_rfl) ?_
  refine ok_P (by kernel_rfl) (by kernel_rfl) (by kernel_rfl) ?_
  iterate 2 refine ok_v (by kernel_rfl) ?_
  exact ok_nil
 replace hS:=SymF.fb hS hF [0,1008] [⟨(p1 0).N,#[.bool false,.string s,.int .i64 x],23,true⟩,⟨(p4 8).N,#[.bool false,.string s1,.int .i64 x1],23,true⟩] (by kernel_rfl) (by kernel_rfl)
 replace hG:=hF.gx
 clear hF
 have z4:=hS.fr.size
 refine wp_symQ hS hG hK (fun p5=>[.l 54 (.agg #[.bool false,.string s,.int .i64 x]) 0 0,.v 55 (.int .i64 (n:Int)),.v 56 (.int .u8 (md:Int)),.c (some 57) (cV (.tuple #[.agg #[.bool false,.string s2,.int .i64 x2],.bool b2,.int .i64 0])),.v 53 (.tuple #[.agg #[.bool false,.string s2,.int .i64 x2],.bool b2,.int .i64 0]),.v 58 (.agg #[.bool false,.string s2,.int .i64 x2]),.v 59 (.bool b2),.v 60 (.int .i64 0),.n 11 #[.bool false,.string ⟨#[]⟩,.int .i64 0] 23,.p 1008 0 [.bool false,.string s2,.int .i64 x2],.v 12 (.bool b2),.v 13 (.int .i64 0)]) (fun p5=>[(1,.int .i64 (n:Int)),(2,.int .u8 (md:Int)),(3,.pointer (some ⟨(p1 0).N,0,none⟩)),(6,.bool false),(7,.bool true),(8,.pointer (some ⟨(p4 8).N,0,none⟩)),(9,.bool b1),(10,.int .i64 0),(11,.pointer (some ⟨(p5 8).N,0,none⟩)),(12,.bool b2),(13,.int .i64 0),(43,.bool false)]) (by kernel_rfl) (fun _ _=>by kernel_rfl) (fun _=>by kernel_rfl) (fun _=>by kernel_rfl) (fun p5=>?_) (fun p5 W5 T hF hK=>?_)
 ·refine ok_L (by kernel_rfl) (by kernel_rfl) (by kernel_rfl) ?_
  iterate 2 refine ok_v (by kernel_rfl) ?_
  refine ok_c (fun W cx=>as_v (unhide HP _)) (by kernel_rfl) ?_
  iterate 4 refine ok_v (by kernel_rfl) ?_
  refine ok_n (fun _=>by kernel_rfl) ?_
  refine ok_P (by kernel_rfl) (by kernel_rfl) (by kernel_rfl) ?_
  iterate 2 refine ok_v (by kernel_rfl) ?_
  exact ok_nil
 replace hS:=SymF.fb hS hF [0,1,1008] [⟨(p1 0).N,#[.bool false,.string s,.int .i64 x],23,true⟩,⟨(p4 8).N,#[.bool false,.string s1,.int .i64 x1],23,true⟩,⟨(p5 8).N,#[.bool false,.string s2,.int .i64 x2],23,true⟩] (by kernel_rfl) (by kernel_rfl)
 replace hG:=hF.gx
 clear hF
 have z5:=hS.fr.size
 refine wp_seq ?_
 refine wp_symQ hS hG hK (fun p6=>[.v 61 (.int .i64 0),.v 62 (.bool false),.v 63 (.bool false),.v 64 (.int .i64 0),.v 65 (.bool false),.v 66 (.bool false),.v 67 (.bool false),.v 68 (.pointer (some ⟨(p4 8).N,1,none⟩)),.l 69 (.string s1) 1 1,.v 70 (.int .i64 (s1.size:Int)),.v 71 (.int .i64 (n:Int)),.v 72 (.bool false),.v 73 (.bool false),.v 74 (.bool false),.l 75 (.agg #[.bool false,.string s,.int .i64 x]) 0 0,.l 76 (.agg #[.bool false,.string s1,.int .i64 x1]) 1 0,.v 77 (.bool b1),.v 78 (.pointer (some ⟨(p1 0).N,2,none⟩)),.l 79 (.int .i64 x) 0 2,.v 80 (.pointer (some ⟨(p1 0).N,1,none⟩)),.l 81 (.string s) 0 1,.v 82 (.int .i64 (s.size:Int)),.v 83 (.int .i64 (x+(s.size:Int))),.v 84 (.int .i64 (n:Int)),.v 85 (.pointer (some ⟨(p1 0).N,1,none⟩)),.l 86 (.string s) 0 1,.v 87 (.int .i64 (s.size:Int)),.v 88 (.int .i64 p),.v 89 (.int .i64 v),.v 90 (.int .u8 (md:Int)),.c (some 91) (cV (.bool true)),.v 92 (.bool false),.v 93 (.bool false),.v 94 (.bool false),.l 95 (.agg #[.bool false,.string s,.int .i64 x]) 0 0,.l 96 (.agg #[.bool false,.string s2,.int .i64 x2]) 2 0,.v 97 (.bool b2),.v 98 (.int .i64 (n:Int)),.v 99 (.int .i64 (-(n:Int))),.v 100 (.int .u8 (md:Int)),.c (some 101) (cV (.bool true)),.v 102 (.bool false),.v 103 (.bool false)]) (fun p6=>[(1,.int .i64 (n:Int)),(2,.int .u8 (md:Int)),(3,.pointer (some ⟨(p1 0).N,0,none⟩)),(6,.bool false),(7,.bool true),(8,.pointer (some ⟨(p4 8).N,0,none⟩)),(11,.pointer (some ⟨(p5 8).N,0,none⟩)),(43,.bool false),(103,.bool false)]) (by kernel_rfl) (fun _ _=>by kernel_rfl) (fun _=>by kernel_rfl) (fun _=>by kernel_rfl) (fun p6=>?_) (fun p6 W6 T hF hK=>?_)
 ·iterate 8 refine ok_v (by kernel_rfl) ?_
  refine ok_L (by kernel_rfl) (by kernel_rfl) (by kernel_rfl) ?_
  iterate 2 refine ok_v (by kernel_rfl) ?_
  refine ok_vb (decide_eq_false (show ¬ (s1.size:Int) > (n:Int) by omega)) (by kernel_rfl) ?_
  iterate 2 refine ok_v (by kernel_rfl) ?_
  iterate 2 refine ok_L (by kernel_rfl) (by kernel_rfl) (by kernel_rfl) ?_
  iterate 2 refine ok_v (by kernel_rfl) ?_
  refine ok_L (by kernel_rfl) (by kernel_rfl) (by kernel_rfl) ?_
  refine ok_v (by kernel_rfl) ?_
  refine ok_L (by kernel_rfl) (by kernel_rfl) (by kernel_rfl) ?_
  refine ok_v (by kernel_rfl) ?_
  refine ok_vi (wr64 (x:=x+(s.size:Int)) (by omega) (by omega)) (by kernel_rfl) ?_
  iterate 2 refine ok_v (by kernel_rfl) ?_
  refine ok_L (by kernel_rfl) (by kernel_rfl) (by kernel_rfl) ?_
  refine ok_v (by kernel_rfl) ?_
  refine ok_vi ((imin _ _).trans hp) (by kernel_rfl) ?_
  refine ok_vi ((wr64 (x:=x+(s.size:Int) - p) (by omega) (by omega)).trans hv) (by kernel_rfl) ?_
  refine ok_v (by kernel_rfl) ?_
  refine ok_c (fun W cx=>as_v (unhide HN _)) (by kernel_rfl) ?_
  iterate 3 refine ok_v (by kernel_rfl) ?_
  iterate 2 refine ok_L (by kernel_rfl) (by kernel_rfl) (by kernel_rfl) ?_
  iterate 2 refine ok_v (by kernel_rfl) ?_
  refine ok_vi ((wr64 (x:=0 - (n:Int)) (by omega) (by omega)).trans (by omega)) (by kernel_rfl) ?_
  refine ok_v (by kernel_rfl) ?_
  refine ok_c (fun W cx=>as_v (unhide HM _)) (by kernel_rfl) ?_
  iterate 2 refine ok_v (by kernel_rfl) ?_
  exact ok_nil
 replace hS:=SymF.fb hS hF [0,1,2] [⟨(p1 0).N,#[.bool false,.string s,.int .i64 x],23,true⟩,⟨(p4 8).N,#[.bool false,.string s1,.int .i64 x1],23,true⟩,⟨(p5 8).N,#[.bool false,.string s2,.int .i64 x2],23,true⟩] (by kernel_rfl) (by kernel_rfl)
 replace hG:=hF.gx
 clear hF
 have z6:=hS.fr.size
 refine wp_cond_false (hK.ev 103 (by kernel_rfl) _ (by kernel_rfl)) ?_
 refine wp_skip ?_
 refine then_n ?_
 refine wp_symQ hS hG hK (fun p7=>[.v 104 (.int .u8 (md:Int)),.v 14 (.int .u8 (md:Int))]) (fun p7=>[(1,.int .i64 (n:Int)),(2,.int .u8 (md:Int)),(3,.pointer (some ⟨(p1 0).N,0,none⟩)),(6,.bool false),(7,.bool true),(8,.pointer (some ⟨(p4 8).N,0,none⟩)),(11,.pointer (some ⟨(p5 8).N,0,none⟩)),(14,.int .u8 (md:Int)),(43,.bool false),(103,.bool false)]) (by kernel_rfl) (fun _ _=>by kernel_rfl) (fun _=>by kernel_rfl) (fun _=>by kernel_rfl) (fun p7=>?_) (fun p7 W7 T hF hK=>?_)
 ·iterate 2 refine ok_v (by kernel_rfl) ?_
  exact ok_nil
 replace hS:=SymF.fb hS hF [0,1,2] [⟨(p1 0).N,#[.bool false,.string s,.int .i64 x],23,true⟩,⟨(p4 8).N,#[.bool false,.string s1,.int .i64 x1],23,true⟩,⟨(p5 8).N,#[.bool false,.string s2,.int .i64 x2],23,true⟩] (by kernel_rfl) (by kernel_rfl)
 replace hG:=hF.gx
 clear hF
 have z7:=hS.fr.size
 refine wp_seq ?_
 refine wp_symQ hS hG hK (fun p8=>[.v 105 (.int .u8 (md:Int)),.v 106 (.bool false)]) (fun p8=>[(1,.int .i64 (n:Int)),(2,.int .u8 (md:Int)),(3,.pointer (some ⟨(p1 0).N,0,none⟩)),(6,.bool false),(7,.bool true),(8,.pointer (some ⟨(p4 8).N,0,none⟩)),(11,.pointer (some ⟨(p5 8).N,0,none⟩)),(14,.int .u8 (md:Int)),(43,.bool false),(103,.bool false),(106,.bool false)]) (by kernel_rfl) (fun _ _=>by kernel_rfl) (fun _=>by kernel_rfl) (fun _=>by kernel_rfl) (fun p8=>?_) (fun p8 W8 T hF hK=>?_)
 ·refine ok_v (by kernel_rfl) ?_
  refine ok_vb (decide_eq_false (show ¬ (md:Int) ≥ 3 by omega)) (by kernel_rfl) ?_
  exact ok_nil
 replace hS:=SymF.fb hS hF [0,1,2] [⟨(p1 0).N,#[.bool false,.string s,.int .i64 x],23,true⟩,⟨(p4 8).N,#[.bool false,.string s1,.int .i64 x1],23,true⟩,⟨(p5 8).N,#[.bool false,.string s2,.int .i64 x2],23,true⟩] (by kernel_rfl) (by kernel_rfl)
 replace hG:=hF.gx
 clear hF
 have z8:=hS.fr.size
 refine wp_cond_false (hK.ev 106 (by kernel_rfl) _ (by kernel_rfl)) ?_
 refine wp_skip ?_
 refine then_n ?_
 refine wp_symQ hS hG hK (fun p9=>[.l 109 (.agg #[.bool false,.string s,.int .i64 x]) 0 0,.n 15 #[.bool false,.string ⟨#[]⟩,.int .i64 0] 23,.p 1001 0 [.bool false,.string s,.int .i64 x]]) (fun p9=>[(1,.int .i64 (n:Int)),(2,.int .u8 (md:Int)),(3,.pointer (some ⟨(p1 0).N,0,none⟩)),(6,.bool false),(7,.bool true),(8,.pointer (some ⟨(p4 8).N,0,none⟩)),(11,.pointer (some ⟨(p5 8).N,0,none⟩)),(14,.int .u8 (md:Int)),(15,.pointer (some ⟨(p9 1).N,0,none⟩)),(43,.bool false),(103,.bool false),(106,.bool false)]) (by kernel_rfl) (fun _ _=>by kernel_rfl) (fun _=>by kernel_rfl) (fun _=>by kernel_rfl) (fun p9=>?_) (fun p9 W9 T hF hK=>?_)
 ·refine ok_L (by kernel_rfl) (by kernel_rfl) (by kernel_rfl) ?_
  refine ok_n (fun _=>by kernel_rfl) ?_
  refine ok_P (by kernel_rfl) (by kernel_rfl) (by kernel_rfl) ?_
  exact ok_nil
 replace hS:=SymF.fb hS hF [0,1,2,1001] [⟨(p1 0).N,#[.bool false,.string s,.int .i64 x],23,true⟩,⟨(p4 8).N,#[.bool false,.string s1,.int .i64 x1],23,true⟩,⟨(p5 8).N,#[.bool false,.string s2,.int .i64 x2],23,true⟩,⟨(p9 1).N,#[.bool false,.string s,.int .i64 x],23,true⟩] (by kernel_rfl) (by kernel_rfl)
 replace hG:=hF.gx
 clear hF
 have z9:=hS.fr.size
 refine wp_symQ hS hG hK (fun p10=>[.v 110 (.pointer (some ⟨(p1 0).N,0,none⟩)),.l 111 (.bool false) 0 0,.v 112 (.bool true),.v 113 (.pointer (some ⟨(p9 1).N,0,none⟩)),.p 3 0 [.bool true]]) (fun p10=>[(1,.int .i64 (n:Int)),(2,.int .u8 (md:Int)),(6,.bool false),(7,.bool true),(8,.pointer (some ⟨(p4 8).N,0,none⟩)),(11,.pointer (some ⟨(p5 8).N,0,none⟩)),(14,.int .u8 (md:Int)),(15,.pointer (some ⟨(p9 1).N,0,none⟩)),(43,.bool false),(103,.bool false),(106,.bool false)]) (by kernel_rfl) (fun _ _=>by kernel_rfl) (fun _=>by kernel_rfl) (fun _=>by kernel_rfl) (fun p10=>?_) (fun p10 W10 T hF hK=>?_)
 ·refine ok_v (by kernel_rfl) ?_
  refine ok_L (by kernel_rfl) (by kernel_rfl) (by kernel_rfl) ?_
  iterate 2 refine ok_v (by kernel_rfl) ?_
  refine ok_P (by kernel_rfl) (by kernel_rfl) (by kernel_rfl) ?_
  exact ok_nil
 replace hS:=SymF.fb hS hF [1,2,3] [⟨(p4 8).N,#[.bool false,.string s1,.int .i64 x1],23,true⟩,⟨(p5 8).N,#[.bool false,.string s2,.int .i64 x2],23,true⟩,⟨(p9 1).N,#[.bool true,.string s,.int .i64 x],23,true⟩] (by kernel_rfl) (by kernel_rfl)
 replace hG:=hF.gx
 clear hF
 have z10:=hS.fr.size
 refine wp_symQ hS hG hK (fun p11=>[.l 115 (.agg #[.bool true,.string s,.int .i64 x]) 2 0,.v 116 (.int .i64 (n:Int)),.v 117 (.int .u8 (md:Int)),.c (some 118) (cV (.tuple #[.agg #[.bool true,.string s1,.int .i64 x1],.bool b3,.int .i64 0])),.v 114 (.tuple #[.agg #[.bool true,.string s1,.int .i64 x1],.bool b3,.int .i64 0]),.v 119 (.agg #[.bool true,.string s1,.int .i64 x1]),.v 120 (.bool b3),.v 121 (.int .i64 0),.n 16 #[.bool false,.string ⟨#[]⟩,.int .i64 0] 23,.p 1008 0 [.bool true,.string s1,.int .i64 x1],.v 17 (.bool b3),.v 18 (.int .i64 0)]) (fun p11=>[(1,.int .i64 (n:Int)),(2,.int .u8 (md:Int)),(6,.bool false),(7,.bool true),(8,.pointer (some ⟨(p4 8).N,0,none⟩)),(11,.pointer (some ⟨(p5 8).N,0,none⟩)),(14,.int .u8 (md:Int)),(15,.pointer (some ⟨(p9 1).N,0,none⟩)),(16,.pointer (some ⟨(p11 8).N,0,none⟩)),(18,.int .i64 0),(43,.bool false),(103,.bool false),(106,.bool false)]) (by kernel_rfl) (fun _ _=>by kernel_rfl) (fun _=>by kernel_rfl) (fun _=>by kernel_rfl) (fun p11=>?_) (fun p11 W11 T hF hK=>?_)
 ·refine ok_L (by kernel_rfl) (by kernel_rfl) (by kernel_rfl) ?_
  iterate 2 refine ok_v (by kernel_rfl) ?_
  refine ok_c (fun W cx=>as_v (unhide HS _)) (by kernel_rfl) ?_
  iterate 4 refine ok_v (by kernel_rfl) ?_
  refine ok_n (fun _=>by kernel_rfl) ?_
  refine ok_P (by kernel_rfl) (by kernel_rfl) (by kernel_rfl) ?_
  iterate 2 refine ok_v (by kernel_rfl) ?_
  exact ok_nil
 replace hS:=SymF.fb hS hF [0,1,2,1008] [⟨(p4 8).N,#[.bool false,.string s1,.int .i64 x1],23,true⟩,⟨(p5 8).N,#[.bool false,.string s2,.int .i64 x2],23,true⟩,⟨(p9 1).N,#[.bool true,.string s,.int .i64 x],23,true⟩,⟨(p11 8).N,#[.bool true,.string s1,.int .i64 x1],23,true⟩] (by kernel_rfl) (by kernel_rfl)
 replace hG:=hF.gx
 clear hF
 have z11:=hS.fr.size
 refine wp_symQ hS hG hK (fun p12=>[.l 123 (.agg #[.bool true,.string s,.int .i64 x]) 2 0,.v 124 (.int .i64 (n:Int)),.v 125 (.int .u8 (md:Int)),.c (some 126) (cV (.tuple #[.agg #[.bool true,.string s2,.int .i64 x2],.bool b4,.int .i64 0])),.v 122 (.tuple #[.agg #[.bool true,.string s2,.int .i64 x2],.bool b4,.int .i64 0]),.v 127 (.agg #[.bool true,.string s2,.int .i64 x2]),.v 128 (.bool b4),.v 129 (.int .i64 0),.n 19 #[.bool false,.string ⟨#[]⟩,.int .i64 0] 23,.p 1008 0 [.bool true,.string s2,.int .i64 x2],.v 20 (.bool b4),.v 21 (.int .i64 0)]) (fun p12=>[(1,.int .i64 (n:Int)),(2,.int .u8 (md:Int)),(6,.bool false),(7,.bool true),(8,.pointer (some ⟨(p4 8).N,0,none⟩)),(11,.pointer (some ⟨(p5 8).N,0,none⟩)),(16,.pointer (some ⟨(p11 8).N,0,none⟩)),(18,.int .i64 0),(19,.pointer (some ⟨(p12 8).N,0,none⟩)),(21,.int .i64 0),(43,.bool false),(103,.bool false),(106,.bool false)]) (by kernel_rfl) (fun _ _=>by kernel_rfl) (fun _=>by kernel_rfl) (fun _=>by kernel_rfl) (fun p12=>?_) (fun p12 W12 T hF hK=>?_)
 ·refine ok_L (by kernel_rfl) (by kernel_rfl) (by kernel_rfl) ?_
  iterate 2 refine ok_v (by kernel_rfl) ?_
  refine ok_c (fun W cx=>as_v (unhide HQ _)) (by kernel_rfl) ?_
  iterate 4 refine ok_v (by kernel_rfl) ?_
  refine ok_n (fun _=>by kernel_rfl) ?_
  refine ok_P (by kernel_rfl) (by kernel_rfl) (by kernel_rfl) ?_
  iterate 2 refine ok_v (by kernel_rfl) ?_
  exact ok_nil
 replace hS:=SymF.fb hS hF [0,1,3,1008] [⟨(p4 8).N,#[.bool false,.string s1,.int .i64 x1],23,true⟩,⟨(p5 8).N,#[.bool false,.string s2,.int .i64 x2],23,true⟩,⟨(p11 8).N,#[.bool true,.string s1,.int .i64 x1],23,true⟩,⟨(p12 8).N,#[.bool true,.string s2,.int .i64 x2],23,true⟩] (by kernel_rfl) (by kernel_rfl)
 replace hG:=hF.gx
 clear hF
 have z12:=hS.fr.size
 refine wp_symQ hS hG hK (fun p13=>[.v 130 (.pointer (some ⟨(p11 8).N,0,none⟩)),.l 131 (.bool true) 2 0,.v 132 (.bool false),.v 133 (.pointer (some ⟨(p12 8).N,0,none⟩)),.l 134 (.bool true) 3 0,.v 135 (.bool false),.v 136 (.pointer (some ⟨(p11 8).N,0,none⟩)),.p 2 0 [.bool false],.v 137 (.pointer (some ⟨(p12 8).N,0,none⟩)),.p 3 0 [.bool false]]) (fun p13=>[(1,.int .i64 (n:Int)),(2,.int .u8 (md:Int)),(6,.bool false),(7,.bool true),(8,.pointer (some ⟨(p4 8).N,0,none⟩)),(11,.pointer (some ⟨(p5 8).N,0,none⟩)),(16,.pointer (some ⟨(p11 8).N,0,none⟩)),(18,.int .i64 0),(19,.pointer (some ⟨(p12 8).N,0,none⟩)),(21,.int .i64 0),(43,.bool false),(103,.bool false),(106,.bool false)]) (by kernel_rfl) (fun _ _=>by kernel_rfl) (fun _=>by kernel_rfl) (fun _=>by kernel_rfl) (fun p13=>?_) (fun p13 W13 T hF hK=>?_)
 ·refine ok_v (by kernel_rfl) ?_
  refine ok_L (by kernel_rfl) (by kernel_rfl) (by kernel_rfl) ?_
  iterate 2 refine ok_v (by kernel_rfl) ?_
  refine ok_L (by kernel_rfl) (by kernel_rfl) (by kernel_rfl) ?_
  iterate 2 refine ok_v (by kernel_rfl) ?_
  refine ok_P (by kernel_rfl) (by kernel_rfl) (by kernel_rfl) ?_
  refine ok_v (by kernel_rfl) ?_
  refine ok_P (by kernel_rfl) (by kernel_rfl) (by kernel_rfl) ?_
  exact ok_nil
 replace hS:=SymF.fb hS hF [0,1,2,3] [⟨(p4 8).N,#[.bool false,.string s1,.int .i64 x1],23,true⟩,⟨(p5 8).N,#[.bool false,.string s2,.int .i64 x2],23,true⟩,⟨(p11 8).N,#[.bool false,.string s1,.int .i64 x1],23,true⟩,⟨(p12 8).N,#[.bool false,.string s2,.int .i64 x2],23,true⟩] (by kernel_rfl) (by kernel_rfl)
 replace hG:=hF.gx
 clear hF
 have z13:=hS.fr.size
 refine wp_symQ hS hG hK (fun p14=>[.l 139 (.agg #[.bool false,.string s1,.int .i64 x1]) 0 0,.v 140 (.int .i64 (n:Int)),.v 141 (.int .u8 (md:Int)),.c (some 142) (cV (.tuple #[.agg #[.bool false,.string s1,.int .i64 x1],.bool true,.int .i64 0])),.v 138 (.tuple #[.agg #[.bool false,.string s1,.int .i64 x1],.bool true,.int .i64 0]),.v 143 (.agg #[.bool false,.string s1,.int .i64 x1]),.v 144 (.bool true),.v 145 (.int .i64 0),.n 22 #[.bool false,.string ⟨#[]⟩,.int .i64 0] 23,.p 1008 0 [.bool false,.string s1,.int .i64 x1],.v 23 (.bool true),.v 24 (.int .i64 0)]) (fun p14=>[(1,.int .i64 (n:Int)),(2,.int .u8 (md:Int)),(6,.bool false),(7,.bool true),(8,.pointer (some ⟨(p4 8).N,0,none⟩)),(11,.pointer (some ⟨(p5 8).N,0,none⟩)),(16,.pointer (some ⟨(p11 8).N,0,none⟩)),(18,.int .i64 0),(19,.pointer (some ⟨(p12 8).N,0,none⟩)),(21,.int .i64 0),(22,.pointer (some ⟨(p14 8).N,0,none⟩)),(23,.bool true),(24,.int .i64 0),(43,.bool false),(103,.bool false),(106,.bool false)]) (by kernel_rfl) (fun _ _=>by kernel_rfl) (fun _=>by kernel_rfl) (fun _=>by kernel_rfl) (fun p14=>?_) (fun p14 W14 T hF hK=>?_)
 ·refine ok_L (by kernel_rfl) (by kernel_rfl) (by kernel_rfl) ?_
  iterate 2 refine ok_v (by kernel_rfl) ?_
  refine ok_c (fun W cx=>as_v (unhide HT _)) (by kernel_rfl) ?_
  iterate 4 refine ok_v (by kernel_rfl) ?_
  refine ok_n (fun _=>by kernel_rfl) ?_
  refine ok_P (by kernel_rfl) (by kernel_rfl) (by kernel_rfl) ?_
  iterate 2 refine ok_v (by kernel_rfl) ?_
  exact ok_nil
 replace hS:=SymF.fb hS hF [0,1,2,3,1008] [⟨(p4 8).N,#[.bool false,.string s1,.int .i64 x1],23,true⟩,⟨(p5 8).N,#[.bool false,.string s2,.int .i64 x2],23,true⟩,⟨(p11 8).N,#[.bool false,.string s1,.int .i64 x1],23,true⟩,⟨(p12 8).N,#[.bool false,.string s2,.int .i64 x2],23,true⟩,⟨(p14 8).N,#[.bool false,.string s1,.int .i64 x1],23,true⟩] (by kernel_rfl) (by kernel_rfl)
 replace hG:=hF.gx
 clear hF
 have z14:=hS.fr.size
 refine wp_symQ hS hG hK (fun p15=>[.l 147 (.agg #[.bool false,.string s2,.int .i64 x2]) 1 0,.v 148 (.int .i64 (n:Int)),.v 149 (.int .u8 (md:Int)),.c (some 150) (cV (.tuple #[.agg #[.bool false,.string s2,.int .i64 x2],.bool true,.int .i64 0])),.v 146 (.tuple #[.agg #[.bool false,.string s2,.int .i64 x2],.bool true,.int .i64 0]),.v 151 (.agg #[.bool false,.string s2,.int .i64 x2]),.v 152 (.bool true),.v 153 (.int .i64 0),.n 25 #[.bool false,.string ⟨#[]⟩,.int .i64 0] 23,.p 1008 0 [.bool false,.string s2,.int .i64 x2],.v 26 (.bool true),.v 27 (.int .i64 0)]) (fun p15=>[(2,.int .u8 (md:Int)),(6,.bool false),(7,.bool true),(8,.pointer (some ⟨(p4 8).N,0,none⟩)),(11,.pointer (some ⟨(p5 8).N,0,none⟩)),(16,.pointer (some ⟨(p11 8).N,0,none⟩)),(18,.int .i64 0),(19,.pointer (some ⟨(p12 8).N,0,none⟩)),(21,.int .i64 0),(22,.pointer (some ⟨(p14 8).N,0,none⟩)),(23,.bool true),(24,.int .i64 0),(25,.pointer (some ⟨(p15 8).N,0,none⟩)),(26,.bool true),(27,.int .i64 0),(43,.bool false),(103,.bool false),(106,.bool false)]) (by kernel_rfl) (fun _ _=>by kernel_rfl) (fun _=>by kernel_rfl) (fun _=>by kernel_rfl) (fun p15=>?_) (fun p15 W15 T hF hK=>?_)
 ·refine ok_L (by kernel_rfl) (by kernel_rfl) (by kernel_rfl) ?_
  iterate 2 refine ok_v (by kernel_rfl) ?_
  refine ok_c (fun W cx=>as_v (unhide HU _)) (by kernel_rfl) ?_
  iterate 4 refine ok_v (by kernel_rfl) ?_
  refine ok_n (fun _=>by kernel_rfl) ?_
  refine ok_P (by kernel_rfl) (by kernel_rfl) (by kernel_rfl) ?_
  iterate 2 refine ok_v (by kernel_rfl) ?_
  exact ok_nil
 replace hS:=SymF.fb hS hF [0,1,2,3,4,1008] [⟨(p4 8).N,#[.bool false,.string s1,.int .i64 x1],23,true⟩,⟨(p5 8).N,#[.bool false,.string s2,.int .i64 x2],23,true⟩,⟨(p11 8).N,#[.bool false,.string s1,.int .i64 x1],23,true⟩,⟨(p12 8).N,#[.bool false,.string s2,.int .i64 x2],23,true⟩,⟨(p14 8).N,#[.bool false,.string s1,.int .i64 x1],23,true⟩,⟨(p15 8).N,#[.bool false,.string s2,.int .i64 x2],23,true⟩] (by kernel_rfl) (by kernel_rfl)
 replace hG:=hF.gx
 clear hF
 have z15:=hS.fr.size
 refine wp_symQ hS hG hK (fun p16=>[.v 154 (.bool true),.v 155 (.bool true),.v 156 (.int .i64 0),.v 157 (.bool true),.v 158 (.bool true),.v 159 (.bool true),.v 160 (.int .i64 0),.v 161 (.bool true),.v 162 (.bool true),.v 163 (.bool true),.v 164 (.int .i64 0),.v 165 (.bool true),.v 166 (.bool true),.v 167 (.bool true),.v 168 (.int .i64 0),.v 169 (.bool true),.v 170 (.bool true),.v 171 (.bool true),.l 172 (.agg #[.bool false,.string s1,.int .i64 x1]) 2 0,.l 173 (.agg #[.bool false,.string s1,.int .i64 x1]) 0 0,.v 174 (.bool true),.v 175 (.bool true),.v 176 (.bool true),.l 177 (.agg #[.bool false,.string s2,.int .i64 x2]) 3 0,.l 178 (.agg #[.bool false,.string s2,.int .i64 x2]) 1 0,.v 179 (.bool true),.v 180 (.bool true),.v 181 (.bool true),.v 182 (.bool true),.v 183 (.bool true),.v 184 (.bool true),.v 185 (.bool true),.v 186 (.bool true),.v 187 (.bool true),.l 188 (.agg #[.bool false,.string s1,.int .i64 x1]) 4 0,.l 189 (.agg #[.bool false,.string s1,.int .i64 x1]) 0 0,.v 190 (.bool true),.v 191 (.bool true),.v 192 (.bool true),.l 193 (.agg #[.bool false,.string s2,.int .i64 x2]) 5 0,.l 194 (.agg #[.bool false,.string s2,.int .i64 x2]) 1 0,.v 195 (.bool true),.v 196 (.bool true),.v 6 (.bool true)]) (fun p16=>[(2,.int .u8 (md:Int)),(6,.bool true),(7,.bool true),(43,.bool false),(103,.bool false),(106,.bool false)]) (by kernel_rfl) (fun _ _=>by kernel_rfl) (fun _=>by kernel_rfl) (fun _=>by kernel_rfl) (fun p16=>?_) (fun p16 W16 T hF hK=>?_)
 ·iterate 18 refine ok_v (by kernel_rfl) ?_
  iterate 2 refine ok_L (by kernel_rfl) (by kernel_rfl) (by kernel_rfl) ?_
  refine ok_vr (script_eqdec false s1 x1) (by kernel_rfl) ?_
  iterate 2 refine ok_v (by kernel_rfl) ?_
  iterate 2 refine ok_L (by kernel_rfl) (by kernel_rfl) (by kernel_rfl) ?_
  refine ok_vr (script_eqdec false s2 x2) (by kernel_rfl) ?_
  iterate 8 refine ok_v (by kernel_rfl) ?_
  iterate 2 refine ok_L (by kernel_rfl) (by kernel_rfl) (by kernel_rfl) ?_
  refine ok_vr (script_eqdec false s1 x1) (by kernel_rfl) ?_
  iterate 2 refine ok_v (by kernel_rfl) ?_
  iterate 2 refine ok_L (by kernel_rfl) (by kernel_rfl) (by kernel_rfl) ?_
  refine ok_vr (script_eqdec false s2 x2) (by kernel_rfl) ?_
  iterate 2 refine ok_v (by kernel_rfl) ?_
  exact ok_nil
 replace hS:=SymF.fb hS hF [] [] (by kernel_rfl) (by kernel_rfl)
 replace hG:=hF.gx
 clear hF
 have z16:=hS.fr.size
 refine wp_ret ?_
 exact sym_end hS hK (.bool true) [] [] (by kernel_rfl) (by kernel_rfl) ⟨rfl,hS.fr⟩
theorem nrl_fh (w:World) (s:ByteArray) (x:Int) (n md mm:Nat) (s1:ByteArray) (x1:Int) (s2:ByteArray) (x2:Int) (b1 b2 b3 b4:Bool) (v p:Int) (hs:s.size≤3000) (hx0:-3000≤x) (hx1:x≤3000) (h1:1≤n) (h2:n≤2000) (h3:md≤4) (hs1:s1.size≤n) (hp:min (n:Int) (s.size:Int) = p) (hv:x+(s.size:Int) - p = v) (hm:3≤md) (hmm:7 - md = mm) (HA:Hid (∀ W:World,Calls Tryz.prog 6 #[] W fun e W'=>e = .returned (.bool true)∧Below W.heap.size W W')) (HC:Hid (∀ W:World,Calls Tryz.prog 7 #[.agg #[.bool false,.string s,.int .i64 x],.int .i64 3000,.int .i64 3000] W fun e W'=>e = .returned (.bool true)∧Below W.heap.size W W')) (HR:Hid (∀ W:World,Calls Tryz.prog 17 #[.agg #[.bool false,.string s,.int .i64 x],.int .i64 (n:Int),.int .u8 (md:Int)] W fun e W'=>e = .returned (.tuple #[.agg #[.bool false,.string s1,.int .i64 x1],.bool b1,.int .i64 0])∧Below W.heap.size W W')) (HP:Hid (∀ W:World,Calls Tryz.prog 18 #[.agg #[.bool false,.string s,.int .i64 x],.int .i64 (n:Int),.int .u8 (md:Int)] W fun e W'=>e = .returned (.tuple #[.agg #[.bool false,.string s2,.int .i64 x2],.bool b2,.int .i64 0])∧Below W.heap.size W W')) (HS:Hid (∀ W:World,Calls Tryz.prog 17 #[.agg #[.bool true,.string s,.int .i64 x],.int .i64 (n:Int),.int .u8 (mm:Int)] W fun e W'=>e = .returned (.tuple #[.agg #[.bool true,.string s1,.int .i64 x1],.bool b3,.int .i64 0])∧Below W.heap.size W W')) (HQ:Hid (∀ W:World,Calls Tryz.prog 18 #[.agg #[.bool true,.string s,.int .i64 x],.int .i64 (n:Int),.int .u8 (mm:Int)] W fun e W'=>e = .returned (.tuple #[.agg #[.bool true,.string s2,.int .i64 x2],.bool b4,.int .i64 0])∧Below W.heap.size W W')) (HT:Hid (∀ W:World,Calls Tryz.prog 17 #[.agg #[.bool false,.string s1,.int .i64 x1],.int .i64 (n:Int),.int .u8 (md:Int)] W fun e W'=>e = .returned (.tuple #[.agg #[.bool false,.string s1,.int .i64 x1],.bool true,.int .i64 0])∧Below W.heap.size W W')) (HU:Hid (∀ W:World,Calls Tryz.prog 18 #[.agg #[.bool false,.string s2,.int .i64 x2],.int .i64 (n:Int),.int .u8 (md:Int)] W fun e W'=>e = .returned (.tuple #[.agg #[.bool false,.string s2,.int .i64 x2],.bool true,.int .i64 0])∧Below W.heap.size W W')) (HN:Hid (∀ W:World,Calls Tryz.prog 19 #[.agg #[.bool false,.string s,.int .i64 x],.agg #[.bool false,.string s1,.int .i64 x1],.bool b1,.int .i64 v,.int .u8 (md:Int)] W fun e W'=>e = .returned (.bool true)∧Below W.heap.size W W')) (HM:Hid (∀ W:World,Calls Tryz.prog 19 #[.agg #[.bool false,.string s,.int .i64 x],.agg #[.bool false,.string s2,.int .i64 x2],.bool b2,.int .i64 (-(n:Int)),.int .u8 (md:Int)] W fun e W'=>e = .returned (.bool true)∧Below W.heap.size W W')) :
  Calls Tryz.prog 5 #[.agg #[.bool false,.string s,.int .i64 x],.int .i64 (n:Int),.int .u8 (md:Int)] w fun en w'=>en = .returned (.bool true)∧Below w.heap.size w w':=by
 refine calls_sym Tryz.func5 rfl (by kernel_rfl) fun T hK=>?_
 replace hK:Kn T _ [(0,.agg #[.bool false,.string s,.int .i64 x]),(1,.int .i64 (n:Int)),(2,.int .u8 (md:Int))]:=hK
 have hS:=Fb.begin w
 have hG:GsAt [] w:=trivial
 refine wp_symQ hS hG hK (fun p1=>[.n 3 #[.bool false,.string s,.int .i64 x] 23,.v 6 (.bool false)]) (fun p1=>[(1,.int .i64 (n:Int)),(2,.int .u8 (md:Int)),(3,.pointer (some ⟨(p1 0).N,0,none⟩)),(6,.bool false)]) (by kernel_rfl) (fun _ _=>by kernel_rfl) (fun _=>by kernel_rfl) (fun _=>by kernel_rfl) (fun p1=>?_) (fun p1 W1 T hF hK=>?_)
 ·refine ok_n (fun _=>by kernel_rfl) ?_
  refine ok_v (by kernel_rfl) ?_
  exact ok_nil
 replace hS:=SymF.fb hS hF [1000] [⟨(p1 0).N,#[.bool false,.string s,.int .i64 x],23,true⟩] (by kernel_rfl) (by kernel_rfl)
 replace hG:=hF.gx
 clear hF
 have z1:=hS.fr.size
 refine wp_symQ hS hG hK (fun p2=>[.c (some 28) (cV (.bool true)),.v 7 (.bool true)]) (fun p2=>[(1,.int .i64 (n:Int)),(2,.int .u8 (md:Int)),(3,.pointer (some ⟨(p1 0).N,0,none⟩)),(6,.bool false),(7,.bool true)]) (by kernel_rfl) (fun _ _=>by kernel_rfl) (fun _=>by kernel_rfl) (fun _=>by kernel_rfl) (fun p2=>?_) (fun p2 W2 T hF hK=>?_)
 ·refine ok_c (fun W cx=>as_v (unhide HA _)) (by kernel_rfl) ?_
  refine ok_v (by kernel_rfl) ?_
  exact ok_nil
 replace hS:=SymF.fb hS hF [0] [⟨(p1 0).N,#[.bool false,.string s,.int .i64 x],23,true⟩] (by kernel_rfl) (by kernel_rfl)
 replace hG:=hF.gx
 clear hF
 have z2:=hS.fr.size
 refine wp_seq ?_
 refine wp_symQ hS hG hK (fun p3=>[.l 29 (.agg #[.bool false,.string s,.int .i64 x]) 0 0,.c (some 30) (cV (.bool true)),.v 31 (.bool false),.v 32 (.bool false),.v 33 (.int .i64 (n:Int)),.v 34 (.bool false),.v 35 (.bool false),.v 36 (.bool false),.v 37 (.int .i64 (n:Int)),.v 38 (.bool false),.v 39 (.bool false),.v 40 (.bool false),.v 41 (.int .u8 (md:Int)),.v 42 (.bool false),.v 43 (.bool false)]) (fun p3=>[(1,.int .i64 (n:Int)),(2,.int .u8 (md:Int)),(3,.pointer (some ⟨(p1 0).N,0,none⟩)),(6,.bool false),(7,.bool true),(43,.bool false)]) (by kernel_rfl) (fun _ _=>by kernel_rfl) (fun _=>by kernel_rfl) (fun _=>by kernel_rfl) (fun p3=>?_) (fun p3 W3 T hF hK=>?_)
 ·refine ok_L (by kernel_rfl) (by kernel_rfl) (by kernel_rfl) ?_
  refine ok_c (fun W cx=>as_v (unhide HC _)) (by kernel_rfl) ?_
  iterate 3 refine ok_v (by kernel_rfl) ?_
  refine ok_vb (decide_eq_false (show ¬ (n:Int) < 1 by omega)) (by kernel_rfl) ?_
  iterate 3 refine ok_v (by kernel_rfl) ?_
  refine ok_vb (decide_eq_false (show ¬ (n:Int) > 2000 by omega)) (by kernel_rfl) ?_
  iterate 3 refine ok_v (by kernel_rfl) ?_
  refine ok_vb (decide_eq_false (show ¬ (md:Int) > 4 by omega)) (by kernel_rfl) ?_
  refine ok_v (by kernel_rfl) ?_
  exact ok_nil
 replace hS:=SymF.fb hS hF [0] [⟨(p1 0).N,#[.bool false,.string s,.int .i64 x],23,true⟩] (by kernel_rfl) (by kernel_rfl)
 replace hG:=hF.gx
 clear hF
 have z3:=hS.fr.size
 refine wp_cond_false (hK.ev 43 (by kernel_rfl) _ (by kernel_rfl)) ?_
 refine wp_skip ?_
 refine then_n ?_
 refine wp_symQ hS hG hK (fun p4=>[.l 46 (.agg #[.bool false,.string s,.int .i64 x]) 0 0,.v 47 (.int .i64 (n:Int)),.v 48 (.int .u8 (md:Int)),.c (some 49) (cV (.tuple #[.agg #[.bool false,.string s1,.int .i64 x1],.bool b1,.int .i64 0])),.v 45 (.tuple #[.agg #[.bool false,.string s1,.int .i64 x1],.bool b1,.int .i64 0]),.v 50 (.agg #[.bool false,.string s1,.int .i64 x1]),.v 51 (.bool b1),.v 52 (.int .i64 0),.n 8 #[.bool false,.string ⟨#[]⟩,.int .i64 0] 23,.p 1008 0 [.bool false,.string s1,.int .i64 x1],.v 9 (.bool b1),.v 10 (.int .i64 0)]) (fun p4=>[(1,.int .i64 (n:Int)),(2,.int .u8 (md:Int)),(3,.pointer (some ⟨(p1 0).N,0,none⟩)),(6,.bool false),(7,.bool true),(8,.pointer (some ⟨(p4 8).N,0,none⟩)),(9,.bool b1),(10,.int .i64 0),(43,.bool false)]) (by kernel_rfl) (fun _ _=>by kernel_rfl) (fun _=>by kernel_rfl) (fun _=>by kernel_rfl) (fun p4=>?_) (fun p4 W4 T hF hK=>?_)
 ·refine ok_L (by kernel_rfl) (by kernel_rfl) (by kernel_rfl) ?_
  iterate 2 refine ok_v (by kernel_rfl) ?_
  refine ok_c (fun W cx=>as_v (unhide HR _)) (by kernel_rfl) ?_
  iterate 4 refine ok_v (by kernel_rfl) ?_
  refine ok_n (fun _=>by kernel_rfl) ?_
  refine ok_P (by kernel_rfl) (by kernel_rfl) (by kernel_rfl) ?_
  iterate 2 refine ok_v (by kernel_rfl) ?_
  exact ok_nil
 replace hS:=SymF.fb hS hF [0,1008] [⟨(p1 0).N,#[.bool false,.string s,.int .i64 x],23,true⟩,⟨(p4 8).N,#[.bool false,.string s1,.int .i64 x1],23,true⟩] (by kernel_rfl) (by kernel_rfl)
 replace hG:=hF.gx
 clear hF
 have z4:=hS.fr.size
 refine wp_symQ hS hG hK (fun p5=>[.l 54 (.agg #[.bool false,.string s,.int .i64 x]) 0 0,.v 55 (.int .i64 (n:Int)),.v 56 (.int .u8 (md:Int)),.c (some 57) (cV (.tuple #[.agg #[.bool false,.string s2,.int .i64 x2],.bool b2,.int .i64 0])),.v 53 (.tuple #[.agg #[.bool false,.string s2,.int .i64 x2],.bool b2,.int .i64 0]),.v 58 (.agg #[.bool false,.string s2,.int .i64 x2]),.v 59 (.bool b2),.v 60 (.int .i64 0),.n 11 #[.bool false,.string ⟨#[]⟩,.int .i64 0] 23,.p 1008 0 [.bool false,.string s2,.int .i64 x2],.v 12 (.bool b2),.v 13 (.int .i64 0)]) (fun p5=>[(1,.int .i64 (n:Int)),(2,.int .u8 (md:Int)),(3,.pointer (some ⟨(p1 0).N,0,none⟩)),(6,.bool false),(7,.bool true),(8,.pointer (some ⟨(p4 8).N,0,none⟩)),(9,.bool b1),(10,.int .i64 0),(11,.pointer (some ⟨(p5 8).N,0,none⟩)),(12,.bool b2),(13,.int .i64 0),(43,.bool false)]) (by kernel_rfl) (fun _ _=>by kernel_rfl) (fun _=>by kernel_rfl) (fun _=>by kernel_rfl) (fun p5=>?_) (fun p5 W5 T hF hK=>?_)
 ·refine ok_L (by kernel_rfl) (by kernel_rfl) (by kernel_rfl) ?_
  iterate 2 refine ok_v (by kernel_rfl) ?_
  refine ok_c (fun W cx=>as_v (unhide HP _)) (by kernel_rfl) ?_
  iterate 4 refine ok_v (by kernel_rfl) ?_
  refine ok_n (fun _=>by kernel_rfl) ?_
  refine ok_P (by kernel_rfl) (by kernel_rfl) (by kernel_rfl) ?_
  iterate 2 refine ok_v (by kernel_rfl) ?_
  exact ok_nil
 replace hS:=SymF.fb hS hF [0,1,1008] [⟨(p1 0).N,#[.bool false,.string s,.int .i64 x],23,true⟩,⟨(p4 8).N,#[.bool false,.string s1,.int .i64 x1],23,true⟩,⟨(p5 8).N,#[.bool false,.string s2,.int .i64 x2],23,true⟩] (by kernel_rfl) (by kernel_rfl)
 replace hG:=hF.gx
 clear hF
 have z5:=hS.fr.size
 refine wp_seq ?_
 refine wp_symQ hS hG hK (fun p6=>[.v 61 (.int .i64 0),.v 62 (.bool false),.v 63 (.bool false),.v 64 (.int .i64 0),.v 65 (.bool false),.v 66 (.bool false),.v 67 (.bool false),.v 68 (.pointer (some ⟨(p4 8).N,1,none⟩)),.l 69 (.string s1) 1 1,.v 70 (.int .i64 (s1.size:Int)),.v 71 (.int .i64 (n:Int)),.v 72 (.bool false),.v 73 (.bool false),.v 74 (.bool false),.l 75 (.agg #[.bool false,.string s,.int .i64 x]) 0 0,.l 76 (.agg #[.bool false,.string s1,.int .i64 x1]) 1 0,.v 77 (.bool b1),.v 78 (.pointer (some ⟨(p1 0).N,2,none⟩)),.l 79 (.int .i64 x) 0 2,.v 80 (.pointer (some ⟨(p1 0).N,1,none⟩)),.l 81 (.string s) 0 1,.v 82 (.int .i64 (s.size:Int)),.v 83 (.int .i64 (x+(s.size:Int))),.v 84 (.int .i64 (n:Int)),.v 85 (.pointer (some ⟨(p1 0).N,1,none⟩)),.l 86 (.string s) 0 1,.v 87 (.int .i64 (s.size:Int)),.v 88 (.int .i64 p),.v 89 (.int .i64 v),.v 90 (.int .u8 (md:Int)),.c (some 91) (cV (.bool true)),.v 92 (.bool false),.v 93 (.bool false),.v 94 (.bool false),.l 95 (.agg #[.bool false,.string s,.int .i64 x]) 0 0,.l 96 (.agg #[.bool false,.string s2,.int .i64 x2]) 2 0,.v 97 (.bool b2),.v 98 (.int .i64 (n:Int)),.v 99 (.int .i64 (-(n:Int))),.v 100 (.int .u8 (md:Int)),.c (some 101) (cV (.bool true)),.v 102 (.bool false),.v 103 (.bool false)]) (fun p6=>[(1,.int .i64 (n:Int)),(2,.int .u8 (md:Int)),(3,.pointer (some ⟨(p1 0).N,0,none⟩)),(6,.bool false),(7,.bool true),(8,.pointer (some ⟨(p4 8).N,0,none⟩)),(11,.pointer (some ⟨(p5 8).N,0,none⟩)),(43,.bool false),(103,.bool false)]) (by kernel_rfl) (fun _ _=>by kernel_rfl) (fun _=>by kernel_rfl) (fun _=>by kernel_rfl) (fun p6=>?_) (fun p6 W6 T hF hK=>?_)
 ·iterate 8 refine ok_v (by kernel_rfl) ?_
  refine ok_L (by kernel_rfl) (by kernel_rfl) (by kernel_rfl) ?_
  iterate 2 refine ok_v (by kernel_rfl) ?_
  refine ok_vb (decide_eq_false (show ¬ (s1.size:Int) > (n:Int) by omega)) (by kernel_rfl) ?_
  iterate 2 refine ok_v (by kernel_rfl) ?_
  iterate 2 refine ok_L (by kernel_rfl) (by kernel_rfl) (by kernel_rfl) ?_
  iterate 2 refine ok_v (by kernel_rfl) ?_
  refine ok_L (by kernel_rfl) (by kernel_rfl) (by kernel_rfl) ?_
  refine ok_v (by kernel_rfl) ?_
  refine ok_L (by kernel_rfl) (by kernel_rfl) (by kernel_rfl) ?_
  refine ok_v (by kernel_rfl) ?_
  refine ok_vi (wr64 (x:=x+(s.size:Int)) (by omega) (by omega)) (by kernel_rfl) ?_
  iterate 2 refine ok_v (by kernel_rfl) ?_
  refine ok_L (by kernel_rfl) (by kernel_rfl) (by kernel_rfl) ?_
  refine ok_v (by kernel_rfl) ?_
  refine ok_vi ((imin _ _).trans hp) (by kernel_rfl) ?_
  refine ok_vi ((wr64 (x:=x+(s.size:Int) - p) (by omega) (by omega)).trans hv) (by kernel_rfl) ?_
  refine ok_v (by kernel_rfl) ?_
  refine ok_c (fun W cx=>as_v (unhide HN _)) (by kernel_rfl) ?_
  iterate 3 refine ok_v (by kernel_rfl) ?_
  iterate 2 refine ok_L (by kernel_rfl) (by kernel_rfl) (by kernel_rfl) ?_
  iterate 2 refine ok_v (by kernel_rfl) ?_
  refine ok_vi ((wr64 (x:=0 - (n:Int)) (by omega) (by omega)).trans (by omega)) (by kernel_rfl) ?_
  refine ok_v (by kernel_rfl) ?_
  refine ok_c (fun W cx=>as_v (unhide HM _)) (by kernel_rfl) ?_
  iterate 2 refine ok_v (by kernel_rfl) ?_
  exact ok_nil
 replace hS:=SymF.fb hS hF [0,1,2] [⟨(p1 0).N,#[.bool false,.string s,.int .i64 x],23,true⟩,⟨(p4 8).N,#[.bool false,.string s1,.int .i64 x1],23,true⟩,⟨(p5 8).N,#[.bool false,.string s2,.int .i64 x2],23,true⟩] (by kernel_rfl) (by kernel_rfl)
 replace hG:=hF.gx
 clear hF
 have z6:=hS.fr.size
 refine wp_cond_false (hK.ev 103 (by kernel_rfl) _ (by kernel_rfl)) ?_
 refine wp_skip ?_
 refine then_n ?_
 refine wp_symQ hS hG hK (fun p7=>[.v 104 (.int .u8 (md:Int)),.v 14 (.int .u8 (md:Int))]) (fun p7=>[(1,.int .i64 (n:Int)),(2,.int .u8 (md:Int)),(3,.pointer (some ⟨(p1 0).N,0,none⟩)),(6,.bool false),(7,.bool true),(8,.pointer (some ⟨(p4 8).N,0,none⟩)),(11,.pointer (some ⟨(p5 8).N,0,none⟩)),(14,.int .u8 (md:Int)),(43,.bool false),(103,.bool false)]) (by kernel_rfl) (fun _ _=>by kernel_rfl) (fun _=>by kernel_rfl) (fun _=>by kernel_rfl) (fun p7=>?_) (fun p7 W7 T hF hK=>?_)
 ·iterate 2 refine ok_v (by kernel_rfl) ?_
  exact ok_nil
 replace hS:=SymF.fb hS hF [0,1,2] [⟨(p1 0).N,#[.bool false,.string s,.int .i64 x],23,true⟩,⟨(p4 8).N,#[.bool false,.string s1,.int .i64 x1],23,true⟩,⟨(p5 8).N,#[.bool false,.string s2,.int .i64 x2],23,true⟩] (by kernel_rfl) (by kernel_rfl)
 replace hG:=hF.gx
 clear hF
 have z7:=hS.fr.size
 refine wp_seq ?_
 refine wp_symQ hS hG hK (fun p8=>[.v 105 (.int .u8 (md:Int)),.v 106 (.bool true)]) (fun p8=>[(1,.int .i64 (n:Int)),(2,.int .u8 (md:Int)),(3,.pointer (some ⟨(p1 0).N,0,none⟩)),(6,.bool false),(7,.bool true),(8,.pointer (some ⟨(p4 8).N,0,none⟩)),(11,.pointer (some ⟨(p5 8).N,0,none⟩)),(14,.int .u8 (md:Int)),(43,.bool false),(103,.bool false),(106,.bool true)]) (by kernel_rfl) (fun _ _=>by kernel_rfl) (fun _=>by kernel_rfl) (fun _=>by kernel_rfl) (fun p8=>?_) (fun p8 W8 T hF hK=>?_)
 ·refine ok_v (by kernel_rfl) ?_
  refine ok_vb (decide_eq_true (show (md:Int) ≥ 3 by omega)) (by kernel_rfl) ?_
  exact ok_nil
 replace hS:=SymF.fb hS hF [0,1,2] [⟨(p1 0).N,#[.bool false,.string s,.int .i64 x],23,true⟩,⟨(p4 8).N,#[.bool false,.string s1,.int .i64 x1],23,true⟩,⟨(p5 8).N,#[.bool false,.string s2,.int .i64 x2],23,true⟩] (by kernel_rfl) (by kernel_rfl)
 replace hG:=hF.gx
 clear hF
 have z8:=hS.fr.size
 refine wp_cond_true (hK.ev 106 (by kernel_rfl) _ (by kernel_rfl)) ?_
 refine wp_symG hS hG hK (fun p9=>[.v 107 (.int .u8 (md:Int)),.v 108 (.int .u8 (mm:Int)),.v 14 (.int .u8 (mm:Int))]) (fun p9=>[(1,.int .i64 (n:Int)),(2,.int .u8 (md:Int)),(3,.pointer (some ⟨(p1 0).N,0,none⟩)),(6,.bool false),(7,.bool true),(8,.pointer (some ⟨(p4 8).N,0,none⟩)),(11,.pointer (some ⟨(p5 8).N,0,none⟩)),(14,.int .u8 (mm:Int)),(43,.bool false),(103,.bool false),(106,.bool true)]) (by kernel_rfl) (fun _ _=>by kernel_rfl) (fun _=>by kernel_rfl) (fun _=>by kernel_rfl) (fun p9=>?_) (fun p9 W9 T hF hK=>?_)
 ·refine ok_v (by kernel_rfl) ?_
  refine ok_vi ((wrU8 (x:=7 - (md:Int)) (by omega) (by omega)).trans (by omega)) (by kernel_rfl) ?_
  refine ok_v (by kernel_rfl) ?_
  exact ok_nil
 replace hS:=SymF.fb hS hF [0,1,2] [⟨(p1 0).N,#[.bool false,.string s,.int .i64 x],23,true⟩,⟨(p4 8).N,#[.bool false,.string s1,.int .i64 x1],23,true⟩,⟨(p5 8).N,#[.bool false,.string s2,.int .i64 x2],23,true⟩] (by kernel_rfl) (by kernel_rfl)
 replace hG:=hF.gx
 clear hF
 have z9:=hS.fr.size
 refine then_n ?_
 refine wp_symQ hS hG hK (fun p10=>[.l 109 (.agg #[.bool false,.string s,.int .i64 x]) 0 0,.n 15 #[.bool false,.string ⟨#[]⟩,.int .i64 0] 23,.p 1001 0 [.bool false,.string s,.int .i64 x]]) (fun p10=>[(1,.int .i64 (n:Int)),(2,.int .u8 (md:Int)),(3,.pointer (some ⟨(p1 0).N,0,none⟩)),(6,.bool false),(7,.bool true),(8,.pointer (some ⟨(p4 8).N,0,none⟩)),(11,.pointer (some ⟨(p5 8).N,0,none⟩)),(14,.int .u8 (mm:Int)),(15,.pointer (some ⟨(p10 1).N,0,none⟩)),(43,.bool false),(103,.bool false),(106,.bool true)]) (by kernel_rfl) (fun _ _=>by kernel_rfl) (fun _=>by kernel_rfl) (fun _=>by kernel_rfl) (fun p10=>?_) (fun p10 W10 T hF hK=>?_)
 ·refine ok_L (by kernel_rfl) (by kernel_rfl) (by kernel_rfl) ?_
  refine ok_n (fun _=>by kernel_rfl) ?_
  refine ok_P (by kernel_rfl) (by kernel_rfl) (by kernel_rfl) ?_
  exact ok_nil
 replace hS:=SymF.fb hS hF [0,1,2,1001] [⟨(p1 0).N,#[.bool false,.string s,.int .i64 x],23,true⟩,⟨(p4 8).N,#[.bool false,.string s1,.int .i64 x1],23,true⟩,⟨(p5 8).N,#[.bool false,.string s2,.int .i64 x2],23,true⟩,⟨(p10 1).N,#[.bool false,.string s,.int .i64 x],23,true⟩] (by kernel_rfl) (by kernel_rfl)
 replace hG:=hF.gx
 clear hF
 have z10:=hS.fr.size
 refine wp_symQ hS hG hK (fun p11=>[.v 110 (.pointer (some ⟨(p1 0).N,0,none⟩)),.l 111 (.bool false) 0 0,.v 112 (.bool true),.v 113 (.pointer (some ⟨(p10 1).N,0,none⟩)),.p 3 0 [.bool true]]) (fun p11=>[(1,.int .i64 (n:Int)),(2,.int .u8 (md:Int)),(6,.bool false),(7,.bool true),(8,.pointer (some ⟨(p4 8).N,0,none⟩)),(11,.pointer (some ⟨(p5 8).N,0,none⟩)),(14,.int .u8 (mm:Int)),(15,.pointer (some ⟨(p10 1).N,0,none⟩)),(43,.bool false),(103,.bool false),(106,.bool true)]) (by kernel_rfl) (fun _ _=>by kernel_rfl) (fun _=>by kernel_rfl) (fun _=>by kernel_rfl) (fun p11=>?_) (fun p11 W11 T hF hK=>?_)
 ·refine ok_v (by kernel_rfl) ?_
  refine ok_L (by kernel_rfl) (by kernel_rfl) (by kernel_rfl) ?_
  iterate 2 refine ok_v (by kernel_rfl) ?_
  refine ok_P (by kernel_rfl) (by kernel_rfl) (by kernel_rfl) ?_
  exact ok_nil
 replace hS:=SymF.fb hS hF [1,2,3] [⟨(p4 8).N,#[.bool false,.string s1,.int .i64 x1],23,true⟩,⟨(p5 8).N,#[.bool false,.string s2,.int .i64 x2],23,true⟩,⟨(p10 1).N,#[.bool true,.string s,.int .i64 x],23,true⟩] (by kernel_rfl) (by kernel_rfl)
 replace hG:=hF.gx
 clear hF
 have z11:=hS.fr.size
 refine wp_symQ hS hG hK (fun p12=>[.l 115 (.agg #[.bool true,.string s,.int .i64 x]) 2 0,.v 116 (.int .i64 (n:Int)),.v 117 (.int .u8 (mm:Int)),.c (some 118) (cV (.tuple #[.agg #[.bool true,.string s1,.int .i64 x1],.bool b3,.int .i64 0])),.v 114 (.tuple #[.agg #[.bool true,.string s1,.int .i64 x1],.bool b3,.int .i64 0]),.v 119 (.agg #[.bool true,.string s1,.int .i64 x1]),.v 120 (.bool b3),.v 121 (.int .i64 0),.n 16 #[.bool false,.string ⟨#[]⟩,.int .i64 0] 23,.p 1008 0 [.bool true,.string s1,.int .i64 x1],.v 17 (.bool b3),.v 18 (.int .i64 0)]) (fun p12=>[(1,.int .i64 (n:Int)),(2,.int .u8 (md:Int)),(6,.bool false),(7,.bool true),(8,.pointer (some ⟨(p4 8).N,0,none⟩)),(11,.pointer (some ⟨(p5 8).N,0,none⟩)),(14,.int .u8 (mm:Int)),(15,.pointer (some ⟨(p10 1).N,0,none⟩)),(16,.pointer (some ⟨(p12 8).N,0,none⟩)),(18,.int .i64 0),(43,.bool false),(103,.bool false),(106,.bool true)]) (by kernel_rfl) (fun _ _=>by kernel_rfl) (fun _=>by kernel_rfl) (fun _=>by kernel_rfl) (fun p12=>?_) (fun p12 W12 T hF hK=>?_)
 ·refine ok_L (by kernel_rfl) (by kernel_rfl) (by kernel_rfl) ?_
  iterate 2 refine ok_v (by kernel_rfl) ?_
  refine ok_c (fun W cx=>as_v (unhide HS _)) (by kernel_rfl) ?_
  iterate 4 refine ok_v (by kernel_rfl) ?_
  refine ok_n (fun _=>by kernel_rfl) ?_
  refine ok_P (by kernel_rfl) (by kernel_rfl) (by kernel_rfl) ?_
  iterate 2 refine ok_v (by kernel_rfl) ?_
  exact ok_nil
 replace hS:=SymF.fb hS hF [0,1,2,1008] [⟨(p4 8).N,#[.bool false,.string s1,.int .i64 x1],23,true⟩,⟨(p5 8).N,#[.bool false,.string s2,.int .i64 x2],23,true⟩,⟨(p10 1).N,#[.bool true,.string s,.int .i64 x],23,true⟩,⟨(p12 8).N,#[.bool true,.string s1,.int .i64 x1],23,true⟩] (by kernel_rfl) (by kernel_rfl)
 replace hG:=hF.gx
 clear hF
 have z12:=hS.fr.size
 refine wp_symQ hS hG hK (fun p13=>[.l 123 (.agg #[.bool true,.string s,.int .i64 x]) 2 0,.v 124 (.int .i64 (n:Int)),.v 125 (.int .u8 (mm:Int)),.c (some 126) (cV (.tuple #[.agg #[.bool true,.string s2,.int .i64 x2],.bool b4,.int .i64 0])),.v 122 (.tuple #[.agg #[.bool true,.string s2,.int .i64 x2],.bool b4,.int .i64 0]),.v 127 (.agg #[.bool true,.string s2,.int .i64 x2]),.v 128 (.bool b4),.v 129 (.int .i64 0),.n 19 #[.bool false,.string ⟨#[]⟩,.int .i64 0] 23,.p 1008 0 [.bool true,.string s2,.int .i64 x2],.v 20 (.bool b4),.v 21 (.int .i64 0)]) (fun p13=>[(1,.int .i64 (n:Int)),(2,.int .u8 (md:Int)),(6,.bool false),(7,.bool true),(8,.pointer (some ⟨(p4 8).N,0,none⟩)),(11,.pointer (some ⟨(p5 8).N,0,none⟩)),(16,.pointer (some ⟨(p12 8).N,0,none⟩)),(18,.int .i64 0),(19,.pointer (some ⟨(p13 8).N,0,none⟩)),(21,.int .i64 0),(43,.bool false),(103,.bool false),(106,.bool true)]) (by kernel_rfl) (fun _ _=>by kernel_rfl) (fun _=>by kernel_rfl) (fun _=>by kernel_rfl) (fun p13=>?_) (fun p13 W13 T hF hK=>?_)
 ·refine ok_L (by kernel_rfl) (by kernel_rfl) (by kernel_rfl) ?_
  iterate 2 refine ok_v (by kernel_rfl) ?_
  refine ok_c (fun W cx=>as_v (unhide HQ _)) (by kernel_rfl) ?_
  iterate 4 refine ok_v (by kernel_rfl) ?_
  refine ok_n (fun _=>by kernel_rfl) ?_
  refine ok_P (by kernel_rfl) (by kernel_rfl) (by kernel_rfl) ?_
  iterate 2 refine ok_v (by kernel_rfl) ?_
  exact ok_nil
 replace hS:=SymF.fb hS hF [0,1,3,1008] [⟨(p4 8).N,#[.bool false,.string s1,.int .i64 x1],23,true⟩,⟨(p5 8).N,#[.bool false,.string s2,.int .i64 x2],23,true⟩,⟨(p12 8).N,#[.bool true,.string s1,.int .i64 x1],23,true⟩,⟨(p13 8).N,#[.bool true,.string s2,.int .i64 x2],23,true⟩] (by kernel_rfl) (by kernel_rfl)
 replace hG:=hF.gx
 clear hF
 have z13:=hS.fr.size
 refine wp_symQ hS hG hK (fun p14=>[.v 130 (.pointer (some ⟨(p12 8).N,0,none⟩)),.l 131 (.bool true) 2 0,.v 132 (.bool false),.v 133 (.pointer (some ⟨(p13 8).N,0,none⟩)),.l 134 (.bool true) 3 0,.v 135 (.bool false),.v 136 (.pointer (some ⟨(p12 8).N,0,none⟩)),.p 2 0 [.bool false],.v 137 (.pointer (some ⟨(p13 8).N,0,none⟩)),.p 3 0 [.bool false]]) (fun p14=>[(1,.int .i64 (n:Int)),(2,.int .u8 (md:Int)),(6,.bool false),(7,.bool true),(8,.pointer (some ⟨(p4 8).N,0,none⟩)),(11,.pointer (some ⟨(p5 8).N,0,none⟩)),(16,.pointer (some ⟨(p12 8).N,0,none⟩)),(18,.int .i64 0),(19,.pointer (some ⟨(p13 8).N,0,none⟩)),(21,.int .i64 0),(43,.bool false),(103,.bool false),(106,.bool true)]) (by kernel_rfl) (fun _ _=>by kernel_rfl) (fun _=>by kernel_rfl) (fun _=>by kernel_rfl) (fun p14=>?_) (fun p14 W14 T hF hK=>?_)
 ·refine ok_v (by kernel_rfl) ?_
  refine ok_L (by kernel_rfl) (by kernel_rfl) (by kernel_rfl) ?_
  iterate 2 refine ok_v (by kernel_rfl) ?_
  refine ok_L (by kernel_rfl) (by kernel_rfl) (by kernel_rfl) ?_
  iterate 2 refine ok_v (by kernel_rfl) ?_
  refine ok_P (by kernel_rfl) (by kernel_rfl) (by kernel_rfl) ?_
  refine ok_v (by kernel_rfl) ?_
  refine ok_P (by kernel_rfl) (by kernel_rfl) (by kernel_rfl) ?_
  exact ok_nil
 replace hS:=SymF.fb hS hF [0,1,2,3] [⟨(p4 8).N,#[.bool false,.string s1,.int .i64 x1],23,true⟩,⟨(p5 8).N,#[.bool false,.string s2,.int .i64 x2],23,true⟩,⟨(p12 8).N,#[.bool false,.string s1,.int .i64 x1],23,true⟩,⟨(p13 8).N,#[.bool false,.string s2,.int .i64 x2],23,true⟩] (by kernel_rfl) (by kernel_rfl)
 replace hG:=hF.gx
 clear hF
 have z14:=hS.fr.size
 refine wp_symQ hS hG hK (fun p15=>[.l 139 (.agg #[.bool false,.string s1,.int .i64 x1]) 0 0,.v 140 (.int .i64 (n:Int)),.v 141 (.int .u8 (md:Int)),.c (some 142) (cV (.tuple #[.agg #[.bool false,.string s1,.int .i64 x1],.bool true,.int .i64 0])),.v 138 (.tuple #[.agg #[.bool false,.string s1,.int .i64 x1],.bool true,.int .i64 0]),.v 143 (.agg #[.bool false,.string s1,.int .i64 x1]),.v 144 (.bool true),.v 145 (.int .i64 0),.n 22 #[.bool false,.string ⟨#[]⟩,.int .i64 0] 23,.p 1008 0 [.bool false,.string s1,.int .i64 x1],.v 23 (.bool true),.v 24 (.int .i64 0)]) (fun p15=>[(1,.int .i64 (n:Int)),(2,.int .u8 (md:Int)),(6,.bool false),(7,.bool true),(8,.pointer (some ⟨(p4 8).N,0,none⟩)),(11,.pointer (some ⟨(p5 8).N,0,none⟩)),(16,.pointer (some ⟨(p12 8).N,0,none⟩)),(18,.int .i64 0),(19,.pointer (some ⟨(p13 8).N,0,none⟩)),(21,.int .i64 0),(22,.pointer (some ⟨(p15 8).N,0,none⟩)),(23,.bool true),(24,.int .i64 0),(43,.bool false),(103,.bool false),(106,.bool true)]) (by kernel_rfl) (fun _ _=>by kernel_rfl) (fun _=>by kernel_rfl) (fun _=>by kernel_rfl) (fun p15=>?_) (fun p15 W15 T hF hK=>?_)
 ·refine ok_L (by kernel_rfl) (by kernel_rfl) (by kernel_rfl) ?_
  iterate 2 refine ok_v (by kernel_rfl) ?_
  refine ok_c (fun W cx=>as_v (unhide HT _)) (by kernel_rfl) ?_
  iterate 4 refine ok_v (by kernel_rfl) ?_
  refine ok_n (fun _=>by kernel_rfl) ?_
  refine ok_P (by kernel_rfl) (by kernel_rfl) (by kernel_rfl) ?_
  iterate 2 refine ok_v (by kernel_rfl) ?_
  exact ok_nil
 replace hS:=SymF.fb hS hF [0,1,2,3,1008] [⟨(p4 8).N,#[.bool false,.string s1,.int .i64 x1],23,true⟩,⟨(p5 8).N,#[.bool false,.string s2,.int .i64 x2],23,true⟩,⟨(p12 8).N,#[.bool false,.string s1,.int .i64 x1],23,true⟩,⟨(p13 8).N,#[.bool false,.string s2,.int .i64 x2],23,true⟩,⟨(p15 8).N,#[.bool false,.string s1,.int .i64 x1],23,true⟩] (by kernel_rfl) (by kernel_rfl)
 replace hG:=hF.gx
 clear hF
 have z15:=hS.fr.size
 refine wp_symQ hS hG hK (fun p16=>[.l 147 (.agg #[.bool false,.string s2,.int .i64 x2]) 1 0,.v 148 (.int .i64 (n:Int)),.v 149 (.int .u8 (md:Int)),.c (some 150) (cV (.tuple #[.agg #[.bool false,.string s2,.int .i64 x2],.bool true,.int .i64 0])),.v 146 (.tuple #[.agg #[.bool false,.string s2,.int .i64 x2],.bool true,.int .i64 0]),.v 151 (.agg #[.bool false,.string s2,.int .i64 x2]),.v 152 (.bool true),.v 153 (.int .i64 0),.n 25 #[.bool false,.string ⟨#[]⟩,.int .i64 0] 23,.p 1008 0 [.bool false,.string s2,.int .i64 x2],.v 26 (.bool true),.v 27 (.int .i64 0)]) (fun p16=>[(6,.bool false),(7,.bool true),(8,.pointer (some ⟨(p4 8).N,0,none⟩)),(11,.pointer (some ⟨(p5 8).N,0,none⟩)),(16,.pointer (some ⟨(p12 8).N,0,none⟩)),(18,.int .i64 0),(19,.pointer (some ⟨(p13 8).N,0,none⟩)),(21,.int .i64 0),(22,.pointer (some ⟨(p15 8).N,0,none⟩)),(23,.bool true),(24,.int .i64 0),(25,.pointer (some ⟨(p16 8).N,0,none⟩)),(26,.bool true),(27,.int .i64 0),(43,.bool false),(103,.bool false),(106,.bool true)]) (by kernel_rfl) (fun _ _=>by kernel_rfl) (fun _=>by kernel_rfl) (fun _=>by kernel_rfl) (fun p16=>?_) (fun p16 W16 T hF hK=>?_)
 ·refine ok_L (by kernel_rfl) (by kernel_rfl) (by kernel_rfl) ?_
  iterate 2 refine ok_v (by kernel_rfl) ?_
  refine ok_c (fun W cx=>as_v (unhide HU _)) (by kernel_rfl) ?_
  iterate 4 refine ok_v (by kernel_rfl) ?_
  refine ok_n (fun _=>by kernel_rfl) ?_
  refine ok_P (by kernel_rfl) (by kernel_rfl) (by kernel_rfl) ?_
  iterate 2 refine ok_v (by kernel_rfl) ?_
  exact ok_nil
 replace hS:=SymF.fb hS hF [0,1,2,3,4,1008] [⟨(p4 8).N,#[.bool false,.string s1,.int .i64 x1],23,true⟩,⟨(p5 8).N,#[.bool false,.string s2,.int .i64 x2],23,true⟩,⟨(p12 8).N,#[.bool false,.string s1,.int .i64 x1],23,true⟩,⟨(p13 8).N,#[.bool false,.string s2,.int .i64 x2],23,true⟩,⟨(p15 8).N,#[.bool false,.string s1,.int .i64 x1],23,true⟩,⟨(p16 8).N,#[.bool false,.string s2,.int .i64 x2],23,true⟩] (by kernel_rfl) (by kernel_rfl)
 replace hG:=hF.gx
 clear hF
 have z16:=hS.fr.size
 refine wp_symQ hS hG hK (fun p17=>[.v 154 (.bool true),.v 155 (.bool true),.v 156 (.int .i64 0),.v 157 (.bool true),.v 158 (.bool true),.v 159 (.bool true),.v 160 (.int .i64 0),.v 161 (.bool true),.v 162 (.bool true),.v 163 (.bool true),.v 164 (.int .i64 0),.v 165 (.bool true),.v 166 (.bool true),.v 167 (.bool true),.v 168 (.int .i64 0),.v 169 (.bool true),.v 170 (.bool true),.v 171 (.bool true),.l 172 (.agg #[.bool false,.string s1,.int .i64 x1]) 2 0,.l 173 (.agg #[.bool false,.string s1,.int .i64 x1]) 0 0,.v 174 (.bool true),.v 175 (.bool true),.v 176 (.bool true),.l 177 (.agg #[.bool false,.string s2,.int .i64 x2]) 3 0,.l 178 (.agg #[.bool false,.string s2,.int .i64 x2]) 1 0,.v 179 (.bool true),.v 180 (.bool true),.v 181 (.bool true),.v 182 (.bool true),.v 183 (.bool true),.v 184 (.bool true),.v 185 (.bool true),.v 186 (.bool true),.v 187 (.bool true),.l 188 (.agg #[.bool false,.string s1,.int .i64 x1]) 4 0,.l 189 (.agg #[.bool false,.string s1,.int .i64 x1]) 0 0,.v 190 (.bool true),.v 191 (.bool true),.v 192 (.bool true),.l 193 (.agg #[.bool false,.string s2,.int .i64 x2]) 5 0,.l 194 (.agg #[.bool false,.string s2,.int .i64 x2]) 1 0,.v 195 (.bool true),.v 196 (.bool true),.v 6 (.bool true)]) (fun p17=>[(6,.bool true),(7,.bool true),(43,.bool false),(103,.bool false),(106,.bool true)]) (by kernel_rfl) (fun _ _=>by kernel_rfl) (fun _=>by kernel_rfl) (fun _=>by kernel_rfl) (fun p17=>?_) (fun p17 W17 T hF hK=>?_)
 ·iterate 18 refine ok_v (by kernel_rfl) ?_
  iterate 2 refine ok_L (by kernel_rfl) (by kernel_rfl) (by kernel_rfl) ?_
  refine ok_vr (script_eqdec false s1 x1) (by kernel_rfl) ?_
  iterate 2 refine ok_v (by kernel_rfl) ?_
  iterate 2 refine ok_L (by kernel_rfl) (by kernel_rfl) (by kernel_rfl) ?_
  refine ok_vr (script_eqdec false s2 x2) (by kernel_rfl) ?_
  iterate 8 refine ok_v (by kernel_rfl) ?_
  iterate 2 refine ok_L (by kernel_rfl) (by kernel_rfl) (by kernel_rfl) ?_
  refine ok_vr (script_eqdec false s1 x1) (by kernel_rfl) ?_
  iterate 2 refine ok_v (by kernel_rfl) ?_
  iterate 2 refine ok_L (by kernel_rfl) (by kernel_rfl) (by kernel_rfl) ?_
  refine ok_vr (script_eqdec false s2 x2) (by kernel_rfl) ?_
  iterate 2 refine ok_v (by kernel_rfl) ?_
  exact ok_nil
 replace hS:=SymF.fb hS hF [] [] (by kernel_rfl) (by kernel_rfl)
 replace hG:=hF.gx
 clear hF
 have z17:=hS.fr.size
 refine wp_ret ?_
 exact sym_end hS hK (.bool true) [] [] (by kernel_rfl) (by kernel_rfl) ⟨rfl,hS.fr⟩
end Go.Proofs.YtbblodioaedckaaGreat
