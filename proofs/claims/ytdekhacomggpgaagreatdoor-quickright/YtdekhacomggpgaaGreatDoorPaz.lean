/- Of what QuickRightRow stands on: QkTheW QkRigW. -/
import Derived.Test.YtdekhacomggpgaaGreatDoorPao
import Derived.Test.YtdekhacomggpgaaGreatDoorPaw
import Derived.Test.YtdekhacomggpgaaGreatDoorPak
import Derived.Test.YtdekhacomggpgaaGreatDoorPaf
import Derived.Test.YtdekhacomggpgaaGreatDoorPay
namespace Go.Proofs.YtdekhacomggpgaaGreatDoor
open Go.RowKit
set_option maxHeartbeats 2000000
set_option maxRecDepth 20000
theorem qr_long (w:World) (g:Bool) (s:ByteArray) (x:Int) (hl:40 < s.size) (H0:Hid (∀ W:World,Calls Tryz.prog 5 #[] W fun e W'=>e = .returned (.bool true)∧Below W.heap.size W W')) :
  Calls Tryz.prog 3 #[.agg #[.bool g,.string s,.int .i64 x]] w fun en w'=>en = .returned (.bool true)∧Below w.heap.size w w':=by
 refine calls_sym Tryz.func3 rfl (by kernel_rfl) fun T hK=>?_
 replace hK:Kn T _ [(0,.agg #[.bool g,.string s,.int .i64 x])]:=hK
 have hS:=Fb.begin w
 have hG:GsAt [] w:=trivial
 refine wp_symQ hS hG hK (fun p1=>[.n 1 #[.bool g,.string s,.int .i64 x] 23,.v 2 (.bool false)]) (fun p1=>[(1,.pointer (some ⟨(p1 0).N,0,none⟩)),(2,.bool false)]) (by kernel_rfl) (fun _ _=>by kernel_rfl) (fun _=>by kernel_rfl) (fun _=>by kernel_rfl) (fun p1=>?_) (fun p1 W1 T hF hK=>?_)
 ·refine ok_n (fun _=>by kernel_rfl) ?_
  refine ok_v (by kernel_rfl) ?_
  exact ok_nil
 replace hS:=SymF.fb hS hF [1000] [⟨(p1 0).N,#[.bool g,.string s,.int .i64 x],23,true⟩] (by kernel_rfl) (by kernel_rfl)
 replace hG:=hF.gx
 clear hF
 have z1:=hS.fr.size
 refine wp_symQ hS hG hK (fun p2=>[.c (some 16) (cV (.bool true)),.v 3 (.bool true)]) (fun p2=>[(1,.pointer (some ⟨(p1 0).N,0,none⟩)),(2,.bool false),(3,.bool true)]) (by kernel_rfl) (fun _ _=>by kernel_rfl) (fun _=>by kernel_rfl) (fun _=>by kernel_rfl) (fun p2=>?_) (fun p2 W2 T hF hK=>?_)
 ·refine ok_c (fun W cx=>as_v (unhide H0 _)) (by kernel_rfl) ?_
  refine ok_v (by kernel_rfl) ?_
  exact ok_nil
 replace hS:=SymF.fb hS hF [0] [⟨(p1 0).N,#[.bool g,.string s,.int .i64 x],23,true⟩] (by kernel_rfl) (by kernel_rfl)
 replace hG:=hF.gx
 clear hF
 have z2:=hS.fr.size
 refine wp_seq ?_
 refine wp_symQ hS hG hK (fun p3=>[.v 17 (.pointer (some ⟨(p1 0).N,1,none⟩)),.l 18 (.string s) 0 1,.v 19 (.int .i64 (s.size:Int)),.v 20 (.bool true),.v 21 (.bool true),.k (some 22),.k (some 23),.k (some 24),.v 25 (.bool true),.v 26 (.bool true),.k (some 27),.k (some 28),.k (some 29),.v 30 (.bool true),.v 31 (.bool true),.k (some 32),.k (some 33),.k (some 34),.v 35 (.bool true)]) (fun p3=>[(1,.pointer (some ⟨(p1 0).N,0,none⟩)),(2,.bool false),(3,.bool true),(35,.bool true)]) (by kernel_rfl) (fun _ _=>by kernel_rfl) (fun _=>by kernel_rfl) (fun _=>by kernel_rfl) (fun p3=>?_) (fun p3 W3 T hF hK=>?_)
 ·refine ok_v (by kernel_rfl) ?_
  refine ok_L (by kernel_rfl) (by kernel_rfl) (by kernel_rfl) ?_
  refine ok_v (by kernel_rfl) ?_
  refine ok_vb (decide_eq_true (show (s.size:Int) > 40 by omega)) (by kernel_rfl) ?_
  refine ok_v (by kernel_rfl) ?_
  iterate 3 refine ok_K (by kernel_rfl) ?_
  iterate 2 refine ok_v (by kernel_rfl) ?_
  iterate 3 refine ok_K (by kernel_rfl) ?_
  iterate 2 refine ok_v (by kernel_rfl) ?_
  iterate 3 refine ok_K (by kernel_rfl) ?_
  refine ok_v (by kernel_rfl) ?_
  exact ok_nil
 replace hS:=SymF.fb hS hF [0] [⟨(p1 0).N,#[.bool g,.string s,.int .i64 x],23,true⟩] (by kernel_rfl) (by kernel_rfl)
 replace hG:=hF.gx
 clear hF
 have z3:=hS.fr.size
 refine wp_cond_true (hK.ev 35 (by kernel_rfl) _ (by kernel_rfl)) ?_
 refine wp_symQ hS hG hK (fun p4=>[.v 36 (.bool true),.v 2 (.bool true)]) (fun p4=>[(1,.pointer (some ⟨(p1 0).N,0,none⟩)),(2,.bool true),(3,.bool true),(35,.bool true)]) (by kernel_rfl) (fun _ _=>by kernel_rfl) (fun _=>by kernel_rfl) (fun _=>by kernel_rfl) (fun p4=>?_) (fun p4 W4 T hF hK=>?_)
 ·iterate 2 refine ok_v (by kernel_rfl) ?_
  exact ok_nil
 replace hS:=SymF.fb hS hF [0] [⟨(p1 0).N,#[.bool g,.string s,.int .i64 x],23,true⟩] (by kernel_rfl) (by kernel_rfl)
 replace hG:=hF.gx
 clear hF
 have z4:=hS.fr.size
 refine wp_ret ?_
 refine then_r ?_
 exact sym_end hS hK (.bool true) [] [] (by kernel_rfl) (by kernel_rfl) ⟨rfl,hS.fr⟩
theorem qr_hi (w:World) (g:Bool) (s:ByteArray) (x:Int) (hl:s.size≤40) (hx:400 < x) (H0:Hid (∀ W:World,Calls Tryz.prog 5 #[] W fun e W'=>e = .returned (.bool true)∧Below W.heap.size W W')) :
  Calls Tryz.prog 3 #[.agg #[.bool g,.string s,.int .i64 x]] w fun en w'=>en = .returned (.bool true)∧Below w.heap.size w w':=by
 refine calls_sym Tryz.func3 rfl (by kernel_rfl) fun T hK=>?_
 replace hK:Kn T _ [(0,.agg #[.bool g,.string s,.int .i64 x])]:=hK
 have hS:=Fb.begin w
 have hG:GsAt [] w:=trivial
 refine wp_symQ hS hG hK (fun p1=>[.n 1 #[.bool g,.string s,.int .i64 x] 23,.v 2 (.bool false)]) (fun p1=>[(1,.pointer (some ⟨(p1 0).N,0,none⟩)),(2,.bool false)]) (by kernel_rfl) (fun _ _=>by kernel_rfl) (fun _=>by kernel_rfl) (fun _=>by kernel_rfl) (fun p1=>?_) (fun p1 W1 T hF hK=>?_)
 ·refine ok_n (fun _=>by kernel_rfl) ?_
  refine ok_v (by kernel_rfl) ?_
  exact ok_nil
 replace hS:=SymF.fb hS hF [1000] [⟨(p1 0).N,#[.bool g,.string s,.int .i64 x],23,true⟩] (by kernel_rfl) (by kernel_rfl)
 replace hG:=hF.gx
 clear hF
 have z1:=hS.fr.size
 refine wp_symQ hS hG hK (fun p2=>[.c (some 16) (cV (.bool true)),.v 3 (.bool true)]) (fun p2=>[(1,.pointer (some ⟨(p1 0).N,0,none⟩)),(2,.bool false),(3,.bool true)]) (by kernel_rfl) (fun _ _=>by kernel_rfl) (fun _=>by kernel_rfl) (fun _=>by kernel_rfl) (fun p2=>?_) (fun p2 W2 T hF hK=>?_)
 ·refine ok_c (fun W cx=>as_v (unhide H0 _)) (by kernel_rfl) ?_
  refine ok_v (by kernel_rfl) ?_
  exact ok_nil
 replace hS:=SymF.fb hS hF [0] [⟨(p1 0).N,#[.bool g,.string s,.int .i64 x],23,true⟩] (by kernel_rfl) (by kernel_rfl)
 replace hG:=hF.gx
 clear hF
 have z2:=hS.fr.size
 refine wp_seq ?_
 refine wp_symQ hS hG hK (fun p3=>[.v 17 (.pointer (some ⟨(p1 0).N,1,none⟩)),.l 18 (.string s) 0 1,.v 19 (.int .i64 (s.size:Int)),.v 20 (.bool false),.v 21 (.bool false),.v 22 (.pointer (some ⟨(p1 0).N,2,none⟩)),.l 23 (.int .i64 x) 0 2,.v 24 (.bool true),.v 25 (.bool true),.v 26 (.bool true),.k (some 27),.k (some 28),.k (some 29),.v 30 (.bool true),.v 31 (.bool true),.k (some 32),.k (some 33),.k (some 34),.v 35 (.bool true)]) (fun p3=>[(1,.pointer (some ⟨(p1 0).N,0,none⟩)),(2,.bool false),(3,.bool true),(35,.bool true)]) (by kernel_rfl) (fun _ _=>by kernel_rfl) (fun _=>by kernel_rfl) (fun _=>by kernel_rfl) (fun p3=>?_) (fun p3 W3 T hF hK=>?_)
 ·refine ok_v (by kernel_rfl) ?_
  refine ok_L (by kernel_rfl) (by kernel_rfl) (by kernel_rfl) ?_
  refine ok_v (by kernel_rfl) ?_
  refine ok_vb (decide_eq_false (show ¬ (s.size:Int) > 40 by omega)) (by kernel_rfl) ?_
  iterate 2 refine ok_v (by kernel_rfl) ?_
  refine ok_L (by kernel_rfl) (by kernel_rfl) (by kernel_rfl) ?_
  refine ok_vb (decide_eq_true (show x > 400 by omega)) (by kernel_rfl) ?_
  iterate 2 refine ok_v (by kernel_rfl) ?_
  iterate 3 refine ok_K (by kernel_rfl) ?_
  iterate 2 refine ok_v (by kernel_rfl) ?_
  iterate 3 refine ok_K (by kernel_rfl) ?_
  refine ok_v (by kernel_rfl) ?_
  exact ok_nil
 replace hS:=SymF.fb hS hF [0] [⟨(p1 0).N,#[.bool g,.string s,.int .i64 x],23,true⟩] (by kernel_rfl) (by kernel_rfl)
 replace hG:=hF.gx
 clear hF
 have z3:=hS.fr.size
 refine wp_cond_true (hK.ev 35 (by kernel_rfl) _ (by kernel_rfl)) ?_
 refine wp_symQ hS hG hK (fun p4=>[.v 36 (.bool true),.v 2 (.bool true)]) (fun p4=>[(1,.pointer (some ⟨(p1 0).N,0,none⟩)),(2,.bool true),(3,.bool true),(35,.bool true)]) (by kernel_rfl) (fun _ _=>by kernel_rfl) (fun _=>by kernel_rfl) (fun _=>by kernel_rfl) (fun p4=>?_) (fun p4 W4 T hF hK=>?_)
 ·iterate 2 refine ok_v (by kernel_rfl) ?_
  exact ok_nil
 replace hS:=SymF.fb hS hF [0] [⟨(p1 0).N,#[.bool g,.string s,.int .i64 x],23,true⟩] (by kernel_rfl) (by kernel_rfl)
 replace hG:=hF.gx
 clear hF
 have z4:=hS.fr.size
 refine wp_ret ?_
 refine then_r ?_
 exact sym_end hS hK (.bool true) [] [] (by kernel_rfl) (by kernel_rfl) ⟨rfl,hS.fr⟩
theorem qr_lo (w:World) (g:Bool) (s:ByteArray) (x:Int) (hl:s.size≤40) (hx:x < -400) (H0:Hid (∀ W:World,Calls Tryz.prog 5 #[] W fun e W'=>e = .returned (.bool true)∧Below W.heap.size W W')) :
  Calls Tryz.prog 3 #[.agg #[.bool g,.string s,.int .i64 x]] w fun en w'=>en = .returned (.bool true)∧Below w.heap.size w w':=by
 refine calls_sym Tryz.func3 rfl (by kernel_rfl) fun T hK=>?_
 replace hK:Kn T _ [(0,.agg #[.bool g,.string s,.int .i64 x])]:=hK
 have hS:=Fb.begin w
 have hG:GsAt [] w:=trivial
 refine wp_symQ hS hG hK (fun p1=>[.n 1 #[.bool g,.string s,.int .i64 x] 23,.v 2 (.bool false)]) (fun p1=>[(1,.pointer (some ⟨(p1 0).N,0,none⟩)),(2,.bool false)]) (by kernel_rfl) (fun _ _=>by kernel_rfl) (fun _=>by kernel_rfl) (fun _=>by kernel_rfl) (fun p1=>?_) (fun p1 W1 T hF hK=>?_)
 ·refine ok_n (fun _=>by kernel_rfl) ?_
  refine ok_v (by kernel_rfl) ?_
  exact ok_nil
 replace hS:=SymF.fb hS hF [1000] [⟨(p1 0).N,#[.bool g,.string s,.int .i64 x],23,true⟩] (by kernel_rfl) (by kernel_rfl)
 replace hG:=hF.gx
 clear hF
 have z1:=hS.fr.size
 refine wp_symQ hS hG hK (fun p2=>[.c (some 16) (cV (.bool true)),.v 3 (.bool true)]) (fun p2=>[(1,.pointer (some ⟨(p1 0).N,0,none⟩)),(2,.bool false),(3,.bool true)]) (by kernel_rfl) (fun _ _=>by kernel_rfl) (fun _=>by kernel_rfl) (fun _=>by kernel_rfl) (fun p2=>?_) (fun p2 W2 T hF hK=>?_)
 ·refine ok_c (fun W cx=>as_v (unhide H0 _)) (by kernel_rfl) ?_
  refine ok_v (by kernel_rfl) ?_
  exact ok_nil
 replace hS:=SymF.fb hS hF [0] [⟨(p1 0).N,#[.bool g,.string s,.int .i64 x],23,true⟩] (by kernel_rfl) (by kernel_rfl)
 replace hG:=hF.gx
 clear hF
 have z2:=hS.fr.size
 refine wp_seq ?_
 refine wp_symQ hS hG hK (fun p3=>[.v 17 (.pointer (some ⟨(p1 0).N,1,none⟩)),.l 18 (.string s) 0 1,.v 19 (.int .i64 (s.size:Int)),.v 20 (.bool false),.v 21 (.bool false),.v 22 (.pointer (some ⟨(p1 0).N,2,none⟩)),.l 23 (.int .i64 x) 0 2,.v 24 (.bool false),.v 25 (.bool false),.v 26 (.bool false),.v 27 (.pointer (some ⟨(p1 0).N,2,none⟩)),.l 28 (.int .i64 x) 0 2,.v 29 (.bool true),.v 30 (.bool true),.v 31 (.bool true),.k (some 32),.k (some 33),.k (some 34),.v 35 (.bool true)]) (fun p3=>[(1,.pointer (some ⟨(p1 0).N,0,none⟩)),(2,.bool false),(3,.bool true),(35,.bool true)]) (by kernel_rfl) (fun _ _=>by kernel_rfl) (fun _=>by kernel_rfl) (fun _=>by kernel_rfl) (fun p3=>?_) (fun p3 W3 T hF hK=>?_)
 ·refine ok_v (by kernel_rfl) ?_
  refine ok_L (by kernel_rfl) (by kernel_rfl) (by kernel_rfl) ?_
  refine ok_v (by kernel_rfl) ?_
  refine ok_vb (decide_eq_false (show ¬ (s.size:Int) > 40 by omega)) (by kernel_rfl) ?_
  iterate 2 refine ok_v (by kernel_rfl) ?_
  refine ok_L (by kernel_rfl) (by kernel_rfl) (by kernel_rfl) ?_
  refine ok_vb (decide_eq_false (show ¬ x > 400 by omega)) (by kernel_rfl) ?_
  iterate 3 refine ok_v (by kernel_rfl) ?_
  refine ok_L (by kernel_rfl) (by kernel_rfl) (by kernel_rfl) ?_
  refine ok_vb (decide_eq_true (show x < (-400) by omega)) (by kernel_rfl) ?_
  iterate 2 refine ok_v (by kernel_rfl) ?_
  iterate 3 refine ok_K (by kernel_rfl) ?_
  refine ok_v (by kernel_rfl) ?_
  exact ok_nil
 replace hS:=SymF.fb hS hF [0] [⟨(p1 0).N,#[.bool g,.string s,.int .i64 x],23,true⟩] (by kernel_rfl) (by kernel_rfl)
 replace hG:=hF.gx
 clear hF
 have z3:=hS.fr.size
 refine wp_cond_true (hK.ev 35 (by kernel_rfl) _ (by kernel_rfl)) ?_
 refine wp_symQ hS hG hK (fun p4=>[.v 36 (.bool true),.v 2 (.bool true)]) (fun p4=>[(1,.pointer (some ⟨(p1 0).N,0,none⟩)),(2,.bool true),(3,.bool true),(35,.bool true)]) (by kernel_rfl) (fun _ _=>by kernel_rfl) (fun _=>by kernel_rfl) (fun _=>by kernel_rfl) (fun p4=>?_) (fun p4 W4 T hF hK=>?_)
 ·iterate 2 refine ok_v (by kernel_rfl) ?_
  exact ok_nil
 replace hS:=SymF.fb hS hF [0] [⟨(p1 0).N,#[.bool g,.string s,.int .i64 x],23,true⟩] (by kernel_rfl) (by kernel_rfl)
 replace hG:=hF.gx
 clear hF
 have z4:=hS.fr.size
 refine wp_ret ?_
 refine then_r ?_
 exact sym_end hS hK (.bool true) [] [] (by kernel_rfl) (by kernel_rfl) ⟨rfl,hS.fr⟩
theorem qr_chk (w:World) (g:Bool) (s:ByteArray) (x:Int) (e0:Int) (hl:s.size≤40) (hx0:-400≤x) (hx1:x≤400) (he:e0≠0) (H0:Hid (∀ W:World,Calls Tryz.prog 5 #[] W fun e W'=>e = .returned (.bool true)∧Below W.heap.size W W')) (HC:Hid (∀ W:World,Calls Tryz.prog 6 #[.agg #[.bool g,.string s,.int .i64 x]] W fun e W'=>e = .returned (.int .i64 e0)∧Below W.heap.size W W')) :
  Calls Tryz.prog 3 #[.agg #[.bool g,.string s,.int .i64 x]] w fun en w'=>en = .returned (.bool true)∧Below w.heap.size w w':=by
 refine calls_sym Tryz.func3 rfl (by kernel_rfl) fun T hK=>?_
 replace hK:Kn T _ [(0,.agg #[.bool g,.string s,.int .i64 x])]:=hK
 have hS:=Fb.begin w
 have hG:GsAt [] w:=trivial
 refine wp_symQ hS hG hK (fun p1=>[.n 1 #[.bool g,.string s,.int .i64 x] 23,.v 2 (.bool false)]) (fun p1=>[(1,.pointer (some ⟨(p1 0).N,0,none⟩)),(2,.bool false)]) (by kernel_rfl) (fun _ _=>by kernel_rfl) (fun _=>by kernel_rfl) (fun _=>by kernel_rfl) (fun p1=>?_) (fun p1 W1 T hF hK=>?_)
 ·refine ok_n (fun _=>by kernel_rfl) ?_
  refine ok_v (by kernel_rfl) ?_
  exact ok_nil
 replace hS:=SymF.fb hS hF [1000] [⟨(p1 0).N,#[.bool g,.string s,.int .i64 x],23,true⟩] (by kernel_rfl) (by kernel_rfl)
 replace hG:=hF.gx
 clear hF
 have z1:=hS.fr.size
 refine wp_symQ hS hG hK (fun p2=>[.c (some 16) (cV (.bool true)),.v 3 (.bool true)]) (fun p2=>[(1,.pointer (some ⟨(p1 0).N,0,none⟩)),(2,.bool false),(3,.bool true)]) (by kernel_rfl) (fun _ _=>by kernel_rfl) (fun _=>by kernel_rfl) (fun _=>by kernel_rfl) (fun p2=>?_) (fun p2 W2 T hF hK=>?_)
 ·refine ok_c (fun W cx=>as_v (unhide H0 _)) (by kernel_rfl) ?_
  refine ok_v (by kernel_rfl) ?_
  exact ok_nil
 replace hS:=SymF.fb hS hF [0] [⟨(p1 0).N,#[.bool g,.string s,.int .i64 x],23,true⟩] (by kernel_rfl) (by kernel_rfl)
 replace hG:=hF.gx
 clear hF
 have z2:=hS.fr.size
 refine wp_seq ?_
 refine wp_symQ hS hG hK (fun p3=>[.v 17 (.pointer (some ⟨(p1 0).N,1,none⟩)),.l 18 (.string s) 0 1,.v 19 (.int .i64 (s.size:Int)),.v 20 (.bool false),.v 21 (.bool false),.v 22 (.pointer (some ⟨(p1 0).N,2,none⟩)),.l 23 (.int .i64 x) 0 2,.v 24 (.bool false),.v 25 (.bool false),.v 26 (.bool false),.v 27 (.pointer (some ⟨(p1 0).N,2,none⟩)),.l 28 (.int .i64 x) 0 2,.v 29 (.bool false),.v 30 (.bool false),.v 31 (.bool false),.l 32 (.agg #[.bool g,.string s,.int .i64 x]) 0 0,.c (some 33) (cV (.int .i64 e0)),.v 34 (.bool true),.v 35 (.bool true)]) (fun p3=>[(1,.pointer (some ⟨(p1 0).N,0,none⟩)),(2,.bool false),(3,.bool true),(35,.bool true)]) (by kernel_rfl) (fun _ _=>by kernel_rfl) (fun _=>by kernel_rfl) (fun _=>by kernel_rfl) (fun p3=>?_) (fun p3 W3 T hF hK=>?_)
 ·refine ok_v (by kernel_rfl) ?_
  refine ok_L (by kernel_rfl) (by kernel_rfl) (by kernel_rfl) ?_
  refine ok_v (by kernel_rfl) ?_
  refine ok_vb (decide_eq_false (show ¬ (s.size:Int) > 40 by omega)) (by kernel_rfl) ?_
  iterate 2 refine ok_v (by kernel_rfl) ?_
  refine ok_L (by kernel_rfl) (by kernel_rfl) (by kernel_rfl) ?_
  refine ok_vb (decide_eq_false (show ¬ x > 400 by omega)) (by kernel_rfl) ?_
  iterate 3 refine ok_v (by kernel_rfl) ?_
  refine ok_L (by kernel_rfl) (by kernel_rfl) (by kernel_rfl) ?_
  refine ok_vb (decide_eq_false (show ¬ x < (-400) by omega)) (by kernel_rfl) ?_
  iterate 2 refine ok_v (by kernel_rfl) ?_
  refine ok_L (by kernel_rfl) (by kernel_rfl) (by kernel_rfl) ?_
  refine ok_c (fun W cx=>as_v (unhide HC _)) (by kernel_rfl) ?_
  refine ok_vb (bne_iff_ne.2 (show e0≠0 by omega)) (by kernel_rfl) ?_
  refine ok_v (by kernel_rfl) ?_
  exact ok_nil
 replace hS:=SymF.fb hS hF [0] [⟨(p1 0).N,#[.bool g,.string s,.int .i64 x],23,true⟩] (by kernel_rfl) (by kernel_rfl)
 replace hG:=hF.gx
 clear hF
 have z3:=hS.fr.size
 refine wp_cond_true (hK.ev 35 (by kernel_rfl) _ (by kernel_rfl)) ?_
 refine wp_symQ hS hG hK (fun p4=>[.v 36 (.bool true),.v 2 (.bool true)]) (fun p4=>[(1,.pointer (some ⟨(p1 0).N,0,none⟩)),(2,.bool true),(3,.bool true),(35,.bool true)]) (by kernel_rfl) (fun _ _=>by kernel_rfl) (fun _=>by kernel_rfl) (fun _=>by kernel_rfl) (fun p4=>?_) (fun p4 W4 T hF hK=>?_)
 ·iterate 2 refine ok_v (by kernel_rfl) ?_
  exact ok_nil
 replace hS:=SymF.fb hS hF [0] [⟨(p1 0).N,#[.bool g,.string s,.int .i64 x],23,true⟩] (by kernel_rfl) (by kernel_rfl)
 replace hG:=hF.gx
 clear hF
 have z4:=hS.fr.size
 refine wp_ret ?_
 refine then_r ?_
 exact sym_end hS hK (.bool true) [] [] (by kernel_rfl) (by kernel_rfl) ⟨rfl,hS.fr⟩
theorem dnum_none (w:World) (g:Bool) (s:ByteArray) (x:Int) (HP:Hid (∀ W:World,Calls Tryz.prog 37 #[.string s] W fun e W'=>e = .returned (.tuple #[.agg #[.slice none 0 0],.int .i64 0,.int .i64 12])∧Below W.heap.size W W')) :
  Calls Tryz.prog 23 #[.agg #[.bool g,.string s,.int .i64 x]] w fun en w'=>en = .returned (.agg #[.slice none 0 0])∧Below w.heap.size w w':=by
 refine calls_sym Tryz.func23 rfl (by kernel_rfl) fun T hK=>?_
 replace hK:Kn T _ [(0,.agg #[.bool g,.string s,.int .i64 x])]:=hK
 have hS:=Fb.begin w
 have hG:GsAt [] w:=trivial
 refine wp_symQ hS hG hK (fun p1=>[.n 1 #[.bool g,.string s,.int .i64 x] 23,.n 2 #[.slice none 0 0] 29]) (fun p1=>[(1,.pointer (some ⟨(p1 0).N,0,none⟩)),(2,.pointer (some ⟨(p1 1).N,0,none⟩))]) (by kernel_rfl) (fun _ _=>by kernel_rfl) (fun _=>by kernel_rfl) (fun _=>by kernel_rfl) (fun p1=>?_) (fun p1 W1 T hF hK=>?_)
 ·iterate 2 refine ok_n (fun _=>by kernel_rfl) ?_
  exact ok_nil
 replace hS:=SymF.fb hS hF [1000,1001] [⟨(p1 0).N,#[.bool g,.string s,.int .i64 x],23,true⟩,⟨(p1 1).N,#[.slice none 0 0],29,true⟩] (by kernel_rfl) (by kernel_rfl)
 replace hG:=hF.gx
 clear hF
 have z1:=hS.fr.size
 refine wp_symQ hS hG hK (fun p2=>[.v 7 (.pointer (some ⟨(p1 0).N,1,none⟩)),.l 8 (.string s) 0 1,.c (some 9) (cV (.tuple #[.agg #[.slice none 0 0],.int .i64 0,.int .i64 12])),.v 6 (.tuple #[.agg #[.slice none 0 0],.int .i64 0,.int .i64 12]),.v 10 (.agg #[.slice none 0 0]),.v 11 (.int .i64 0),.v 12 (.int .i64 12),.n 3 #[.slice none 0 0] 29,.p 1007 0 [.slice none 0 0],.v 4 (.int .i64 0),.v 5 (.int .i64 12)]) (fun p2=>[(2,.pointer (some ⟨(p1 1).N,0,none⟩)),(3,.pointer (some ⟨(p2 7).N,0,none⟩))]) (by kernel_rfl) (fun _ _=>by kernel_rfl) (fun _=>by kernel_rfl) (fun _=>by kernel_rfl) (fun p2=>?_) (fun p2 W2 T hF hK=>?_)
 ·refine ok_v (by kernel_rfl) ?_
  refine ok_L (by kernel_rfl) (by kernel_rfl) (by kernel_rfl) ?_
  refine ok_c (fun W cx=>as_v (unhide HP _)) (by kernel_rfl) ?_
  iterate 4 refine ok_v (by kernel_rfl) ?_
  refine ok_n (fun _=>by kernel_rfl) ?_
  refine ok_P (by kernel_rfl) (by kernel_rfl) (by kernel_rfl) ?_
  iterate 2 refine ok_v (by kernel_rfl) ?_
  exact ok_nil
 replace hS:=SymF.fb hS hF [1,1007] [⟨(p1 1).N,#[.slice none 0 0],29,true⟩,⟨(p2 7).N,#[.slice none 0 0],29,true⟩] (by kernel_rfl) (by kernel_rfl)
 replace hG:=hF.gx
 clear hF
 have z2:=hS.fr.size
 refine wp_symQ hS hG hK (fun p3=>[.l 13 (.agg #[.slice none 0 0]) 1 0,.p 0 0 [.slice none 0 0]]) (fun p3=>[(2,.pointer (some ⟨(p1 1).N,0,none⟩))]) (by kernel_rfl) (fun _ _=>by kernel_rfl) (fun _=>by kernel_rfl) (fun _=>by kernel_rfl) (fun p3=>?_) (fun p3 W3 T hF hK=>?_)
 ·refine ok_L (by kernel_rfl) (by kernel_rfl) (by kernel_rfl) ?_
  refine ok_P (by kernel_rfl) (by kernel_rfl) (by kernel_rfl) ?_
  exact ok_nil
 replace hS:=SymF.fb hS hF [0] [⟨(p1 1).N,#[.slice none 0 0],29,true⟩] (by kernel_rfl) (by kernel_rfl)
 replace hG:=hF.gx
 clear hF
 have z3:=hS.fr.size
 refine wp_ret ?_
 exact sym_end hS hK (.agg #[.slice none 0 0]) [(0,0,1)] [.slice none 0 0] (by kernel_rfl) (by kernel_rfl) ⟨rfl,hS.fr⟩
theorem qr_tt (w:World) (g:Bool) (s:ByteArray) (x:Int) (q:Bool) (R S fa fb za zb:Nat) (hT:Tb w) (hl:s.size≤40) (hx0:-400≤x) (hx1:x≤400) (hz:zb < 4294967296) (H0:Hid (∀ W:World,Calls Tryz.prog 5 #[] W fun e W'=>e = .returned (.bool true)∧Below W.heap.size W W')) (HC:Hid (∀ W:World,Calls Tryz.prog 6 #[.agg #[.bool g,.string s,.int .i64 x]] W fun e W'=>e = .returned (.int .i64 0)∧Below W.heap.size W W')) (HQ:Hid (∀ W:World,Calls Tryz.prog 7 #[.agg #[.bool g,.string s,.int .i64 x]] W fun en W'=>(∃ a n c a' n' c',en = .returned (.tuple #[.agg #[.bool q,.slice a n c,.slice a' n' c'],.int .i64 0])∧Mine W' W.heap.size a n c R∧Mine W' W.heap.size a' n' c' S)∧Below W.heap.size W W')) (HD:Hid (∀ W:World,Calls Tryz.prog 8 #[.agg #[.bool g,.string s,.int .i64 x]] W fun e W'=>e = .returned (.tuple #[.float .f64 za,.bool true])∧Below W.heap.size W W')) (HS:Hid (∀ W:World,Calls Tryz.prog 9 #[.agg #[.bool g,.string s,.int .i64 x]] W fun e W'=>e = .returned (.tuple #[.float .f32 zb,.bool true])∧Below W.heap.size W W')) (HF:Hid (∀ W:World,Calls Tryz.prog 11 #[.agg #[.bool g,.string s,.int .i64 x]] W fun e W'=>e = .returned (.bool true)∧Below W.heap.size W W')) (HA:Hid (∀ (W:World) (A:Option Addr) (N C:Nat) (A':Option Addr) (N' C':Nat),Tb W→Num W A N R→Num W A' N' S→Calls Tryz.prog 10 #[.agg #[.int .i64 11,.int .i64 52],.agg #[.bool q,.slice A N C,.slice A' N' C'],.bool g,.int .u8 0] W fun e W'=>e = .returned (.tuple #[.int .u64 (za:Int),.int .u8 (fa:Int),.int .i64 0])∧Below W.heap.size W W')) (HB:Hid (∀ (W:World) (A:Option Addr) (N C:Nat) (A':Option Addr) (N' C':Nat),Tb W→Num W A N R→Num W A' N' S→Calls Tryz.prog 10 #[.agg #[.int .i64 8,.int .i64 23],.agg #[.bool q,.slice A N C,.slice A' N' C'],.bool g,.int .u8 0] W fun e W'=>e = .returned (.tuple #[.int .u64 (zb:Int),.int .u8 (fb:Int),.int .i64 0])∧Below W.heap.size W W')) :
  Calls Tryz.prog 3 #[.agg #[.bool g,.string s,.int .i64 x]] w fun en w'=>en = .returned (.bool true)∧Below w.heap.size w w':=by
 refine calls_sym Tryz.func3 rfl (by kernel_rfl) fun T hK=>?_
 replace hK:Kn T _ [(0,.agg #[.bool g,.string s,.int .i64 x])]:=hK
 have hS:=Fb.begin w
 have hG:GsAt [] w:=trivial
 refine wp_symQ hS hG hK (fun p1=>[.n 1 #[.bool g,.string s,.int .i64 x] 23,.v 2 (.bool false)]) (fun p1=>[(1,.pointer (some ⟨(p1 0).N,0,none⟩)),(2,.bool false)]) (by kernel_rfl) (fun _ _=>by kernel_rfl) (fun _=>by kernel_rfl) (fun _=>by kernel_rfl) (fun p1=>?_) (fun p1 W1 T hF hK=>?_)
 ·refine ok_n (fun _=>by kernel_rfl) ?_
  refine ok_v (by kernel_rfl) ?_
  exact ok_nil
 replace hS:=SymF.fb hS hF [1000] [⟨(p1 0).N,#[.bool g,.string s,.int .i64 x],23,true⟩] (by kernel_rfl) (by kernel_rfl)
 replace hG:=hF.gx
 clear hF
 have z1:=hS.fr.size
 refine wp_symQ hS hG hK (fun p2=>[.c (some 16) (cV (.bool true)),.v 3 (.bool true)]) (fun p2=>[(1,.pointer (some ⟨(p1 0).N,0,none⟩)),(2,.bool false),(3,.bool true)]) (by kernel_rfl) (fun _ _=>by kernel_rfl) (fun _=>by kernel_rfl) (fun _=>by kernel_rfl) (fun p2=>?_) (fun p2 W2 T hF hK=>?_)
 ·refine ok_c (fun W cx=>as_v (unhide H0 _)) (by kernel_rfl) ?_
  refine ok_v (by kernel_rfl) ?_
  exact ok_nil
 replace hS:=SymF.fb hS hF [0] [⟨(p1 0).N,#[.bool g,.string s,.int .i64 x],23,true⟩] (by kernel_rfl) (by kernel_rfl)
 replace hG:=hF.gx
 clear hF
 have z2:=hS.fr.size
 refine wp_seq ?_
 refine wp_symQ hS hG hK (fun p3=>[.v 17 (.pointer (some ⟨(p1 0).N,1,none⟩)),.l 18 (.string s) 0 1,.v 19 (.int .i64 (s.size:Int)),.v 20 (.bool false),.v 21 (.bool false),.v 22 (.pointer (some ⟨(p1 0).N,2,none⟩)),.l 23 (.int .i64 x) 0 2,.v 24 (.bool false),.v 25 (.bool false),.v 26 (.bool false),.v 27 (.pointer (some ⟨(p1 0).N,2,none⟩)),.l 28 (.int .i64 x) 0 2,.v 29 (.bool false),.v 30 (.bool false),.v 31 (.bool false),.l 32 (.agg #[.bool g,.string s,.int .i64 x]) 0 0,.c (some 33) (cV (.int .i64 0)),.v 34 (.bool false),.v 35 (.bool false)]) (fun p3=>[(1,.pointer (some ⟨(p1 0).N,0,none⟩)),(2,.bool false),(3,.bool true),(35,.bool false)]) (by kernel_rfl) (fun _ _=>by kernel_rfl) (fun _=>by kernel_rfl) (fun _=>by kernel_rfl) (fun p3=>?_) (fun p3 W3 T hF hK=>?_)
 ·refine ok_v (by kernel_rfl) ?_
  refine ok_L (by kernel_rfl) (by kernel_rfl) (by kernel_rfl) ?_
  refine ok_v (by kernel_rfl) ?_
  refine ok_vb (decide_eq_false (show ¬ (s.size:Int) > 40 by omega)) (by kernel_rfl) ?_
  iterate 2 refine ok_v (by kernel_rfl) ?_
  refine ok_L (by kernel_rfl) (by kernel_rfl) (by kernel_rfl) ?_
  refine ok_vb (decide_eq_false (show ¬ x > 400 by omega)) (by kernel_rfl) ?_
  iterate 3 refine ok_v (by kernel_rfl) ?_
  refine ok_L (by kernel_rfl) (by kernel_rfl) (by kernel_rfl) ?_
  refine ok_vb (decide_eq_false (show ¬ x < (-400) by omega)) (by kernel_rfl) ?_
  iterate 2 refine ok_v (by kernel_rfl) ?_
  refine ok_L (by kernel_rfl) (by kernel_rfl) (by kernel_rfl) ?_
  refine ok_c (fun W cx=>as_v (unhide HC _)) (by kernel_rfl) ?_
  iterate 2 refine ok_v (by kernel_rfl) ?_
  exact ok_nil
 replace hS:=SymF.fb hS hF [0] [⟨(p1 0).N,#[.bool g,.string s,.int .i64 x],23,true⟩] (by kernel_rfl) (by kernel_rfl)
 replace hG:=hF.gx
 clear hF
 have z3:=hS.fr.size
 refine wp_cond_false (hK.ev 35 (by kernel_rfl) _ (by kernel_rfl)) ?_
 refine wp_skip ?_
 refine then_n ?_
 refine wp_symQ hS hG hK (fun p4=>[.l 38 (.agg #[.bool g,.string s,.int .i64 x]) 0 0,.c (some 39) (cH W3.heap.size R S fun x9 y9=>.tuple #[.agg #[.bool q,x9,y9],.int .i64 0]),.v 37 (.tuple #[.agg #[.bool q,.slice (p4 1).A (p4 1).N (p4 1).C,.slice (p4 1).A' (p4 1).N' (p4 1).C'],.int .i64 0]),.v 40 (.agg #[.bool q,.slice (p4 1).A (p4 1).N (p4 1).C,.slice (p4 1).A' (p4 1).N' (p4 1).C']),.v 41 (.int .i64 0),.n 4 #[.bool false,.slice none 0 0,.slice none 0 0] 31,.p 1005 0 [.bool q,.slice (p4 1).A (p4 1).N (p4 1).C,.slice (p4 1).A' (p4 1).N' (p4 1).C'],.v 5 (.int .i64 0)]) (fun p4=>[(1,.pointer (some ⟨(p1 0).N,0,none⟩)),(2,.bool false),(3,.bool true),(4,.pointer (some ⟨(p4 5).N,0,none⟩)),(5,.int .i64 0),(35,.bool false)]) (by kernel_rfl) (fun _ _=>by kernel_rfl) (fun _=>by kernel_rfl) (fun _=>by kernel_rfl) (fun p4=>?_) (fun p4 W4 T hF hK=>?_)
 ·refine ok_L (by kernel_rfl) (by kernel_rfl) (by kernel_rfl) ?_
  refine ok_c (fun W cx=>as_h cx.hb (unhide HQ _)) (by kernel_rfl) ?_
  iterate 3 refine ok_v (by kernel_rfl) ?_
  refine ok_n (fun _=>by kernel_rfl) ?_
  refine ok_P (by kernel_rfl) (by kernel_rfl) (by kernel_rfl) ?_
  refine ok_v (by kernel_rfl) ?_
  exact ok_nil
 replace hS:=SymF.fb hS hF [0,1005] [⟨(p1 0).N,#[.bool g,.string s,.int .i64 x],23,true⟩,⟨(p4 5).N,#[.bool q,.slice (p4 1).A (p4 1).N (p4 1).C,.slice (p4 1).A' (p4 1).N' (p4 1).C'],31,true⟩] (by kernel_rfl) (by kernel_rfl)
 replace hG:GsAt (gM W3.heap.size (p4 1).A (p4 1).N (p4 1).C R :: gM W3.heap.size (p4 1).A' (p4 1).N' (p4 1).C' S :: _) W4:=⟨And.left (hF.fx 1),And.right (hF.fx 1),hF.gx⟩
 clear hF
 have z4:=hS.fr.size
 refine wp_seq ?_
 refine wp_symQ hS hG hK (fun p5=>[.v 42 (.int .i64 0),.v 43 (.bool false)]) (fun p5=>[(1,.pointer (some ⟨(p1 0).N,0,none⟩)),(2,.bool false),(3,.bool true),(4,.pointer (some ⟨(p4 5).N,0,none⟩)),(35,.bool false),(43,.bool false)]) (by kernel_rfl) (fun _ _=>by kernel_rfl) (fun _=>by kernel_rfl) (fun _=>by kernel_rfl) (fun p5=>?_) (fun p5 W5 T hF hK=>?_)
 ·iterate 2 refine ok_v (by kernel_rfl) ?_
  exact ok_nil
 replace hS:=SymF.fb hS hF [0,1] [⟨(p1 0).N,#[.bool g,.string s,.int .i64 x],23,true⟩,⟨(p4 5).N,#[.bool q,.slice (p4 1).A (p4 1).N (p4 1).C,.slice (p4 1).A' (p4 1).N' (p4 1).C'],31,true⟩] (by kernel_rfl) (by kernel_rfl)
 replace hG:=hF.gx
 clear hF
 have z5:=hS.fr.size
 refine wp_cond_false (hK.ev 43 (by kernel_rfl) _ (by kernel_rfl)) ?_
 refine wp_skip ?_
 refine then_n ?_
 refine wp_symQ hS hG hK (fun p6=>[.l 45 (.agg #[.bool g,.string s,.int .i64 x]) 0 0,.c (some 46) (cV (.tuple #[.float .f64 za,.bool true])),.v 44 (.tuple #[.float .f64 za,.bool true]),.v 47 (.float .f64 za),.v 48 (.bool true),.v 6 (.float .f64 za),.v 7 (.bool true)]) (fun p6=>[(1,.pointer (some ⟨(p1 0).N,0,none⟩)),(2,.bool false),(3,.bool true),(4,.pointer (some ⟨(p4 5).N,0,none⟩)),(6,.float .f64 za),(7,.bool true),(35,.bool false),(43,.bool false)]) (by kernel_rfl) (fun _ _=>by kernel_rfl) (fun _=>by kernel_rfl) (fun _=>by kernel_rfl) (fun p6=>?_) (fun p6 W6 T hF hK=>?_)
 ·refine ok_L (by kernel_rfl) (by kernel_rfl) (by kernel_rfl) ?_
  refine ok_c (fun W cx=>as_v (unhide HD _)) (by kernel_rfl) ?_
  iterate 5 refine ok_v (by kernel_rfl) ?_
  exact ok_nil
 replace hS:=SymF.fb hS hF [0,1] [⟨(p1 0).N,#[.bool g,.string s,.int .i64 x],23,true⟩,⟨(p4 5).N,#[.bool q,.slice (p4 1).A (p4 1).N (p4 1).C,.slice (p4 1).A' (p4 1).N' (p4 1).C'],31,true⟩] (by kernel_rfl) (by kernel_rfl)
 replace hG:=hF.gx
 clear hF
 have z6:=hS.fr.size
 refine wp_symQ hS hG hK (fun p7=>[.l 50 (.agg #[.bool g,.string s,.int .i64 x]) 0 0,.c (some 51) (cV (.tuple #[.float .f32 zb,.bool true])),.v 49 (.tuple #[.float .f32 zb,.bool true]),.v 52 (.float .f32 zb),.v 53 (.bool true),.v 8 (.float .f32 zb),.v 9 (.bool true)]) (fun p7=>[(1,.pointer (some ⟨(p1 0).N,0,none⟩)),(2,.bool false),(3,.bool true),(4,.pointer (some ⟨(p4 5).N,0,none⟩)),(6,.float .f64 za),(7,.bool true),(8,.float .f32 zb),(9,.bool true),(35,.bool false),(43,.bool false)]) (by kernel_rfl) (fun _ _=>by kernel_rfl) (fun _=>by kernel_rfl) (fun _=>by kernel_rfl) (fun p7=>?_) (fun p7 W7 T hF hK=>?_)
 ·refine ok_L (by kernel_rfl) (by kernel_rfl) (by kernel_rfl) ?_
  refine ok_c (fun W cx=>as_v (unhide HS _)) (by kernel_rfl) ?_
  iterate 5 refine ok_v (by kernel_rfl) ?_
  exact ok_nil
 replace hS:=SymF.fb hS hF [0,1] [⟨(p1 0).N,#[.bool g,.string s,.int .i64 x],23,true⟩,⟨(p4 5).N,#[.bool q,.slice (p4 1).A (p4 1).N (p4 1).C,.slice (p4 1).A' (p4 1).N' (p4 1).C'],31,true⟩] (by kernel_rfl) (by kernel_rfl)
 replace hG:=hF.gx
 clear hF
 have z7:=hS.fr.size
 refine wp_symQ hS hG hK (fun p8=>[.v 55 (.agg #[.int .i64 11,.int .i64 52]),.l 56 (.agg #[.bool q,.slice (p4 1).A (p4 1).N (p4 1).C,.slice (p4 1).A' (p4 1).N' (p4 1).C']) 1 0,.v 57 (.pointer (some ⟨(p1 0).N,0,none⟩)),.l 58 (.bool g) 0 0,.c (some 59) (cV (.tuple #[.int .u64 (za:Int),.int .u8 (fa:Int),.int .i64 0])),.v 54 (.tuple #[.int .u64 (za:Int),.int .u8 (fa:Int),.int .i64 0]),.v 60 (.int .u64 (za:Int)),.v 61 (.int .u8 (fa:Int)),.v 62 (.int .i64 0),.v 10 (.int .u64 (za:Int)),.v 11 (.int .u8 (fa:Int)),.v 12 (.int .i64 0)]) (fun p8=>[(1,.pointer (some ⟨(p1 0).N,0,none⟩)),(2,.bool false),(3,.bool true),(4,.pointer (some ⟨(p4 5).N,0,none⟩)),(6,.float .f64 za),(7,.bool true),(8,.float .f32 zb),(9,.bool true),(10,.int .u64 (za:Int)),(12,.int .i64 0),(35,.bool false),(43,.bool false)]) (by kernel_rfl) (fun _ _=>by kernel_rfl) (fun _=>by kernel_rfl) (fun _=>by kernel_rfl) (fun p8=>?_) (fun p8 W8 T hF hK=>?_)
 ·refine ok_v (by kernel_rfl) ?_
  refine ok_L (by kernel_rfl) (by kernel_rfl) (by kernel_rfl) ?_
  refine ok_v (by kernel_rfl) ?_
  refine ok_L (by kernel_rfl) (by kernel_rfl) (by kernel_rfl) ?_
  refine ok_c (fun W cx=>as_v (unhide HA _ _ _ (p4 1).C _ _ (p4 1).C' (hT.kept cx.fr) (Mine.num cx.G.1) (Mine.num cx.G.2.1))) (by kernel_rfl) ?_
  iterate 7 refine ok_v (by kernel_rfl) ?_
  exact ok_nil
 replace hS:=SymF.fb hS hF [0,1] [⟨(p1 0).N,#[.bool g,.string s,.int .i64 x],23,true⟩,⟨(p4 5).N,#[.bool q,.slice (p4 1).A (p4 1).N (p4 1).C,.slice (p4 1).A' (p4 1).N' (p4 1).C'],31,true⟩] (by kernel_rfl) (by kernel_rfl)
 replace hG:=hF.gx
 clear hF
 have z8:=hS.fr.size
 refine wp_symQ hS hG hK (fun p9=>[.v 64 (.agg #[.int .i64 8,.int .i64 23]),.l 65 (.agg #[.bool q,.slice (p4 1).A (p4 1).N (p4 1).C,.slice (p4 1).A' (p4 1).N' (p4 1).C']) 1 0,.v 66 (.pointer (some ⟨(p1 0).N,0,none⟩)),.l 67 (.bool g) 0 0,.c (some 68) (cV (.tuple #[.int .u64 (zb:Int),.int .u8 (fb:Int),.int .i64 0])),.v 63 (.tuple #[.int .u64 (zb:Int),.int .u8 (fb:Int),.int .i64 0]),.v 69 (.int .u64 (zb:Int)),.v 70 (.int .u8 (fb:Int)),.v 71 (.int .i64 0),.v 13 (.int .u64 (zb:Int)),.v 14 (.int .u8 (fb:Int)),.v 15 (.int .i64 0)]) (fun p9=>[(1,.pointer (some ⟨(p1 0).N,0,none⟩)),(2,.bool false),(3,.bool true),(6,.float .f64 za),(7,.bool true),(8,.float .f32 zb),(9,.bool true),(10,.int .u64 (za:Int)),(12,.int .i64 0),(13,.int .u64 (zb:Int)),(15,.int .i64 0),(35,.bool false),(43,.bool false)]) (by kernel_rfl) (fun _ _=>by kernel_rfl) (fun _=>by kernel_rfl) (fun _=>by kernel_rfl) (fun p9=>?_) (fun p9 W9 T hF hK=>?_)
 ·refine ok_v (by kernel_rfl) ?_
  refine ok_L (by kernel_rfl) (by kernel_rfl) (by kernel_rfl) ?_
  refine ok_v (by kernel_rfl) ?_
  refine ok_L (by kernel_rfl) (by kernel_rfl) (by kernel_rfl) ?_
  refine ok_c (fun W cx=>as_v (unhide HB _ _ _ (p4 1).C _ _ (p4 1).C' (hT.kept cx.fr) (Mine.num cx.G.1) (Mine.num cx.G.2.1))) (by kernel_rfl) ?_
  iterate 7 refine ok_v (by kernel_rfl) ?_
  exact ok_nil
 replace hS:=SymF.fb hS hF [0] [⟨(p1 0).N,#[.bool g,.string s,.int .i64 x],23,true⟩] (by kernel_rfl) (by kernel_rfl)
 replace hG:=hF.gx
 clear hF
 have z9:=hS.fr.size
 refine wp_seq ?_
 refine wp_symQ hS hG hK (fun p10=>[.v 72 (.bool true),.v 73 (.bool false),.v 74 (.bool false),.v 75 (.int .i64 0),.v 76 (.bool false),.v 77 (.bool false),.v 78 (.bool false),.v 79 (.int .i64 0),.v 80 (.bool false),.v 81 (.bool false),.v 82 (.bool false),.v 83 (.bool true),.l 84 (.agg #[.bool g,.string s,.int .i64 x]) 0 0,.c (some 85) (cV (.bool true)),.v 86 (.bool false),.v 87 (.bool false)]) (fun p10=>[(2,.bool false),(3,.bool true),(6,.float .f64 za),(7,.bool true),(8,.float .f32 zb),(9,.bool true),(10,.int .u64 (za:Int)),(13,.int .u64 (zb:Int)),(35,.bool false),(43,.bool false),(87,.bool false)]) (by kernel_rfl) (fun _ _=>by kernel_rfl) (fun _=>by kernel_rfl) (fun _=>by kernel_rfl) (fun p10=>?_) (fun p10 W10 T hF hK=>?_)
 ·iterate 12 refine ok_v (by kernel_rfl) ?_
  refine ok_L (by kernel_rfl) (by kernel_rfl) (by kernel_rfl) ?_
  refine ok_c (fun W cx=>as_v (unhide HF _)) (by kernel_rfl) ?_
  iterate 2 refine ok_v (by kernel_rfl) ?_
  exact ok_nil
 replace hS:=SymF.fb hS hF [] [] (by kernel_rfl) (by kernel_rfl)
 replace hG:=hF.gx
 clear hF
 have z10:=hS.fr.size
 refine wp_cond_false (hK.ev 87 (by kernel_rfl) _ (by kernel_rfl)) ?_
 refine wp_skip ?_
 refine then_n ?_
 refine wp_seq ?_
 refine wp_symQ hS hG hK (fun p11=>[.v 88 (.bool true),.v 89 (.bool true),.v 90 (.float .f64 za),.v 91 (.int .u64 (za:Int)),.v 92 (.int .u64 (za:Int)),.v 93 (.bool false),.v 94 (.bool false),.v 95 (.bool false),.v 96 (.bool true),.v 97 (.bool true),.v 98 (.float .f32 zb),.v 99 (.int .u32 (zb:Int)),.v 100 (.int .u64 (zb:Int)),.v 101 (.int .u64 (zb:Int)),.v 102 (.bool false),.v 103 (.bool false),.v 104 (.bool false)]) (fun p11=>[(2,.bool false),(3,.bool true),(6,.float .f64 za),(7,.bool true),(8,.float .f32 zb),(9,.bool true),(35,.bool false),(43,.bool false),(87,.bool false),(104,.bool false)]) (by kernel_rfl) (fun _ _=>by kernel_rfl) (fun _=>by kernel_rfl) (fun _=>by kernel_rfl) (fun p11=>?_) (fun p11 W11 T hF hK=>?_)
 ·iterate 5 refine ok_v (by kernel_rfl) ?_
  refine ok_vb (bne_self_eq_false (za:Int)) (by kernel_rfl) ?_
  iterate 6 refine ok_v (by kernel_rfl) ?_
  refine ok_vi (wrQ (x:=(zb:Int)) (by omega) (by omega)) (by kernel_rfl) ?_
  refine ok_v (by kernel_rfl) ?_
  refine ok_vb (bne_self_eq_false (zb:Int)) (by kernel_rfl) ?_
  iterate 2 refine ok_v (by kernel_rfl) ?_
  exact ok_nil
 replace hS:=SymF.fb hS hF [] [] (by kernel_rfl) (by kernel_rfl)
 replace hG:=hF.gx
 clear hF
 have z11:=hS.fr.size
 refine wp_cond_false (hK.ev 104 (by kernel_rfl) _ (by kernel_rfl)) ?_
 refine wp_skip ?_
 refine then_n ?_
 refine wp_symQ hS hG hK (fun p12=>[.v 105 (.bool true),.v 106 (.bool true),.k (some 107),.k (some 108),.k (some 109),.v 110 (.bool true),.v 111 (.bool true),.v 112 (.bool true),.v 113 (.bool true),.k (some 114),.k (some 115),.k (some 116),.v 117 (.bool true),.v 118 (.bool true),.v 2 (.bool true)]) (fun p12=>[(2,.bool true),(3,.bool true),(35,.bool false),(43,.bool false),(87,.bool false),(104,.bool false)]) (by kernel_rfl) (fun _ _=>by kernel_rfl) (fun _=>by kernel_rfl) (fun _=>by kernel_rfl) (fun p12=>?_) (fun p12 W12 T hF hK=>?_)
 ·iterate 2 refine ok_v (by kernel_rfl) ?_
  iterate 3 refine ok_K (by kernel_rfl) ?_
  iterate 4 refine ok_v (by kernel_rfl) ?_
  iterate 3 refine ok_K (by kernel_rfl) ?_
  iterate 3 refine ok_v (by kernel_rfl) ?_
  exact ok_nil
 replace hS:=SymF.fb hS hF [] [] (by kernel_rfl) (by kernel_rfl)
 replace hG:=hF.gx
 clear hF
 have z12:=hS.fr.size
 refine wp_ret ?_
 exact sym_end hS hK (.bool true) [] [] (by kernel_rfl) (by kernel_rfl) ⟨rfl,hS.fr⟩
theorem qr_tf (w:World) (g:Bool) (s:ByteArray) (x:Int) (q:Bool) (R S fa fb za bb:Nat) (hT:Tb w) (hl:s.size≤40) (hx0:-400≤x) (hx1:x≤400) (H0:Hid (∀ W:World,Calls Tryz.prog 5 #[] W fun e W'=>e = .returned (.bool true)∧Below W.heap.size W W')) (HC:Hid (∀ W:World,Calls Tryz.prog 6 #[.agg #[.bool g,.string s,.int .i64 x]] W fun e W'=>e = .returned (.int .i64 0)∧Below W.heap.size W W')) (HQ:Hid (∀ W:World,Calls Tryz.prog 7 #[.agg #[.bool g,.string s,.int .i64 x]] W fun en W'=>(∃ a n c a' n' c',en = .returned (.tuple #[.agg #[.bool q,.slice a n c,.slice a' n' c'],.int .i64 0])∧Mine W' W.heap.size a n c R∧Mine W' W.heap.size a' n' c' S)∧Below W.heap.size W W')) (HD:Hid (∀ W:World,Calls Tryz.prog 8 #[.agg #[.bool g,.string s,.int .i64 x]] W fun e W'=>e = .returned (.tuple #[.float .f64 za,.bool true])∧Below W.heap.size W W')) (HS:Hid (∀ W:World,Calls Tryz.prog 9 #[.agg #[.bool g,.string s,.int .i64 x]] W fun e W'=>e = .returned (.tuple #[.float .f32 0,.bool false])∧Below W.heap.size W W')) (HF:Hid (∀ W:World,Calls Tryz.prog 11 #[.agg #[.bool g,.string s,.int .i64 x]] W fun e W'=>e = .returned (.bool true)∧Below W.heap.size W W')) (HA:Hid (∀ (W:World) (A:Option Addr) (N C:Nat) (A':Option Addr) (N' C':Nat),Tb W→Num W A N R→Num W A' N' S→Calls Tryz.prog 10 #[.agg #[.int .i64 11,.int .i64 52],.agg #[.bool q,.slice A N C,.slice A' N' C'],.bool g,.int .u8 0] W fun e W'=>e = .returned (.tuple #[.int .u64 (za:Int),.int .u8 (fa:Int),.int .i64 0])∧Below W.heap.size W W')) (HB:Hid (∀ (W:World) (A:Option Addr) (N C:Nat) (A':Option Addr) (N' C':Nat),Tb W→Num W A N R→Num W A' N' S→Calls Tryz.prog 10 #[.agg #[.int .i64 8,.int .i64 23],.agg #[.bool q,.slice A N C,.slice A' N' C'],.bool g,.int .u8 0] W fun e W'=>e = .returned (.tuple #[.int .u64 (bb:Int),.int .u8 (fb:Int),.int .i64 0])∧Below W.heap.size W W')) :
  Calls Tryz.prog 3 #[.agg #[.bool g,.string s,.int .i64 x]] w fun en w'=>en = .returned (.bool true)∧Below w.heap.size w w':=by
 refine calls_sym Tryz.func3 rfl (by kernel_rfl) fun T hK=>?_
 replace hK:Kn T _ [(0,.agg #[.bool g,.string s,.int .i64 x])]:=hK
 have hS:=Fb.begin w
 have hG:GsAt [] w:=trivial
 refine wp_symQ hS hG hK (fun p1=>[.n 1 #[.bool g,.string s,.int .i64 x] 23,.v 2 (.bool false)]) (fun p1=>[(1,.pointer (some ⟨(p1 0).N,0,none⟩)),(2,.bool false)]) (by kernel_rfl) (fun _ _=>by kernel_rfl) (fun _=>by kernel_rfl) (fun _=>by kernel_rfl) (fun p1=>?_) (fun p1 W1 T hF hK=>?_)
 ·refine ok_n (fun _=>by kernel_rfl) ?_
  refine ok_v (by kernel_rfl) ?_
  exact ok_nil
 replace hS:=SymF.fb hS hF [1000] [⟨(p1 0).N,#[.bool g,.string s,.int .i64 x],23,true⟩] (by kernel_rfl) (by kernel_rfl)
 replace hG:=hF.gx
 clear hF
 have z1:=hS.fr.size
 refine wp_symQ hS hG hK (fun p2=>[.c (some 16) (cV (.bool true)),.v 3 (.bool true)]) (fun p2=>[(1,.pointer (some ⟨(p1 0).N,0,none⟩)),(2,.bool false),(3,.bool true)]) (by kernel_rfl) (fun _ _=>by kernel_rfl) (fun _=>by kernel_rfl) (fun _=>by kernel_rfl) (fun p2=>?_) (fun p2 W2 T hF hK=>?_)
 ·refine ok_c (fun W cx=>as_v (unhide H0 _)) (by kernel_rfl) ?_
  refine ok_v (by kernel_rfl) ?_
  exact ok_nil
 replace hS:=SymF.fb hS hF [0] [⟨(p1 0).N,#[.bool g,.string s,.int .i64 x],23,true⟩] (by kernel_rfl) (by kernel_rfl)
 replace hG:=hF.gx
 clear hF
 have z2:=hS.fr.size
 refine wp_seq ?_
 refine wp_symQ hS hG hK (fun p3=>[.v 17 (.pointer (some ⟨(p1 0).N,1,none⟩)),.l 18 (.string s) 0 1,.v 19 (.int .i64 (s.size:Int)),.v 20 (.bool false),.v 21 (.bool false),.v 22 (.pointer (some ⟨(p1 0).N,2,none⟩)),.l 23 (.int .i64 x) 0 2,.v 24 (.bool false),.v 25 (.bool false),.v 26 (.bool false),.v 27 (.pointer (some ⟨(p1 0).N,2,none⟩)),.l 28 (.int .i64 x) 0 2,.v 29 (.bool false),.v 30 (.bool false),.v 31 (.bool false),.l 32 (.agg #[.bool g,.string s,.int .i64 x]) 0 0,.c (some 33) (cV (.int .i64 0)),.v 34 (.bool false),.v 35 (.bool false)]) (fun p3=>[(1,.pointer (some ⟨(p1 0).N,0,none⟩)),(2,.bool false),(3,.bool true),(35,.bool false)]) (by kernel_rfl) (fun _ _=>by kernel_rfl) (fun _=>by kernel_rfl) (fun _=>by kernel_rfl) (fun p3=>?_) (fun p3 W3 T hF hK=>?_)
 ·refine ok_v (by kernel_rfl) ?_
  refine ok_L (by kernel_rfl) (by kernel_rfl) (by kernel_rfl) ?_
  refine ok_v (by kernel_rfl) ?_
  refine ok_vb (decide_eq_false (show ¬ (s.size:Int) > 40 by omega)) (by kernel_rfl) ?_
  iterate 2 refine ok_v (by kernel_rfl) ?_
  refine ok_L (by kernel_rfl) (by kernel_rfl) (by kernel_rfl) ?_
  refine ok_vb (decide_eq_false (show ¬ x > 400 by omega)) (by kernel_rfl) ?_
  iterate 3 refine ok_v (by kernel_rfl) ?_
  refine ok_L (by kernel_rfl) (by kernel_rfl) (by kernel_rfl) ?_
  refine ok_vb (decide_eq_false (show ¬ x < (-400) by omega)) (by kernel_rfl) ?_
  iterate 2 refine ok_v (by kernel_rfl) ?_
  refine ok_L (by kernel_rfl) (by kernel_rfl) (by kernel_rfl) ?_
  refine ok_c (fun W cx=>as_v (unhide HC _)) (by kernel_rfl) ?_
  iterate 2 refine ok_v (by kernel_rfl) ?_
  exact ok_nil
 replace hS:=SymF.fb hS hF [0] [⟨(p1 0).N,#[.bool g,.string s,.int .i64 x],23,true⟩] (by kernel_rfl) (by kernel_rfl)
 replace hG:=hF.gx
 clear hF
 have z3:=hS.fr.size
 refine wp_cond_false (hK.ev 35 (by kernel_rfl) _ (by kernel_rfl)) ?_
 refine wp_skip ?_
 refine then_n ?_
 refine wp_symQ hS hG hK (fun p4=>[.l 38 (.agg #[.bool g,.string s,.int .i64 x]) 0 0,.c (some 39) (cH W3.heap.size R S fun x9 y9=>.tuple #[.agg #[.bool q,x9,y9],.int .i64 0]),.v 37 (.tuple #[.agg #[.bool q,.slice (p4 1).A (p4 1).N (p4 1).C,.slice (p4 1).A' (p4 1).N' (p4 1).C'],.int .i64 0]),.v 40 (.agg #[.bool q,.slice (p4 1).A (p4 1).N (p4 1).C,.slice (p4 1).A' (p4 1).N' (p4 1).C']),.v 41 (.int .i64 0),.n 4 #[.bool false,.slice none 0 0,.slice none 0 0] 31,.p 1005 0 [.bool q,.slice (p4 1).A (p4 1).N (p4 1).C,.slice (p4 1).A' (p4 1).N' (p4 1).C'],.v 5 (.int .i64 0)]) (fun p4=>[(1,.pointer (some ⟨(p1 0).N,0,none⟩)),(2,.bool false),(3,.bool true),(4,.pointer (some ⟨(p4 5).N,0,none⟩)),(5,.int .i64 0),(35,.bool false)]) (by kernel_rfl) (fun _ _=>by kernel_rfl) (fun _=>by kernel_rfl) (fun _=>by kernel_rfl) (fun p4=>?_) (fun p4 W4 T hF hK=>?_)
 ·refine ok_L (by kernel_rfl) (by kernel_rfl) (by kernel_rfl) ?_
  refine ok_c (fun W cx=>as_h cx.hb (unhide HQ _)) (by kernel_rfl) ?_
  iterate 3 refine ok_v (by kernel_rfl) ?_
  refine ok_n (fun _=>by kernel_rfl) ?_
  refine ok_P (by kernel_rfl) (by kernel_rfl) (by kernel_rfl) ?_
  refine ok_v (by kernel_rfl) ?_
  exact ok_nil
 replace hS:=SymF.fb hS hF [0,1005] [⟨(p1 0).N,#[.bool g,.string s,.int .i64 x],23,true⟩,⟨(p4 5).N,#[.bool q,.slice (p4 1).A (p4 1).N (p4 1).C,.slice (p4 1).A' (p4 1).N' (p4 1).C'],31,true⟩] (by kernel_rfl) (by kernel_rfl)
 replace hG:GsAt (gM W3.heap.size (p4 1).A (p4 1).N (p4 1).C R :: gM W3.heap.size (p4 1).A' (p4 1).N' (p4 1).C' S :: _) W4:=⟨And.left (hF.fx 1),And.right (hF.fx 1),hF.gx⟩
 clear hF
 have z4:=hS.fr.size
 refine wp_seq ?_
 refine wp_symQ hS hG hK (fun p5=>[.v 42 (.int .i64 0),.v 43 (.bool false)]) (fun p5=>[(1,.pointer (some ⟨(p1 0).N,0,none⟩)),(2,.bool false),(3,.bool true),(4,.pointer (some ⟨(p4 5).N,0,none⟩)),(35,.bool false),(43,.bool false)]) (by kernel_rfl) (fun _ _=>by kernel_rfl) (fun _=>by kernel_rfl) (fun _=>by kernel_rfl) (fun p5=>?_) (fun p5 W5 T hF hK=>?_)
 ·iterate 2 refine ok_v (by kernel_rfl) ?_
  exact ok_nil
 replace hS:=SymF.fb hS hF [0,1] [⟨(p1 0).N,#[.bool g,.string s,.int .i64 x],23,true⟩,⟨(p4 5).N,#[.bool q,.slice (p4 1).A (p4 1).N (p4 1).C,.slice (p4 1).A' (p4 1).N' (p4 1).C'],31,true⟩] (by kernel_rfl) (by kernel_rfl)
 replace hG:=hF.gx
 clear hF
 have z5:=hS.fr.size
 refine wp_cond_false (hK.ev 43 (by kernel_rfl) _ (by kernel_rfl)) ?_
 refine wp_skip ?_
 refine then_n ?_
 refine wp_symQ hS hG hK (fun p6=>[.l 45 (.agg #[.bool g,.string s,.int .i64 x]) 0 0,.c (some 46) (cV (.tuple #[.float .f64 za,.bool true])),.v 44 (.tuple #[.float .f64 za,.bool true]),.v 47 (.float .f64 za),.v 48 (.bool true),.v 6 (.float .f64 za),.v 7 (.bool true)]) (fun p6=>[(1,.pointer (some ⟨(p1 0).N,0,none⟩)),(2,.bool false),(3,.bool true),(4,.pointer (some ⟨(p4 5).N,0,none⟩)),(6,.float .f64 za),(7,.bool true),(35,.bool false),(43,.bool false)]) (by kernel_rfl) (fun _ _=>by kernel_rfl) (fun _=>by kernel_rfl) (fun _=>by kernel_rfl) (fun p6=>?_) (fun p6 W6 T hF hK=>?_)
 ·refine ok_L (by kernel_rfl) (by kernel_rfl) (by kernel_rfl) ?_
  refine ok_c (fun W cx=>as_v (unhide HD _)) (by kernel_rfl) ?_
  iterate 5 refine ok_v (by kernel_rfl) ?_
  exact ok_nil
 replace hS:=SymF.fb hS hF [0,1] [⟨(p1 0).N,#[.bool g,.string s,.int .i64 x],23,true⟩,⟨(p4 5).N,#[.bool q,.slice (p4 1).A (p4 1).N (p4 1).C,.slice (p4 1).A' (p4 1).N' (p4 1).C'],31,true⟩] (by kernel_rfl) (by kernel_rfl)
 replace hG:=hF.gx
 clear hF
 have z6:=hS.fr.size
 refine wp_symQ hS hG hK (fun p7=>[.l 50 (.agg #[.bool g,.string s,.int .i64 x]) 0 0,.c (some 51) (cV (.tuple #[.float .f32 0,.bool false])),.v 49 (.tuple #[.float .f32 0,.bool false]),.v 52 (.float .f32 0),.v 53 (.bool false),.v 8 (.float .f32 0),.v 9 (.bool false)]) (fun p7=>[(1,.pointer (some ⟨(p1 0).N,0,none⟩)),(2,.bool false),(3,.bool true),(4,.pointer (some ⟨(p4 5).N,0,none⟩)),(6,.float .f64 za),(7,.bool true),(8,.float .f32 0),(9,.bool false),(35,.bool false),(43,.bool false)]) (by kernel_rfl) (fun _ _=>by kernel_rfl) (fun _=>by kernel_rfl) (fun _=>by kernel_rfl) (fun p7=>?_) (fun p7 W7 T hF hK=>?_)
 ·refine ok_L (by kernel_rfl) (by kernel_rfl) (by kernel_rfl) ?_
  refine ok_c (fun W cx=>as_v (unhide HS _)) (by kernel_rfl) ?_
  iterate 5 refine ok_v (by kernel_rfl) ?_
  exact ok_nil
 replace hS:=SymF.fb hS hF [0,1] [⟨(p1 0).N,#[.bool g,.string s,.int .i64 x],23,true⟩,⟨(p4 5).N,#[.bool q,.slice (p4 1).A (p4 1).N (p4 1).C,.slice (p4 1).A' (p4 1).N' (p4 1).C'],31,true⟩] (by kernel_rfl) (by kernel_rfl)
 replace hG:=hF.gx
 clear hF
 have z7:=hS.fr.size
 refine wp_symQ hS hG hK (fun p8=>[.v 55 (.agg #[.int .i64 11,.int .i64 52]),.l 56 (.agg #[.bool q,.slice (p4 1).A (p4 1).N (p4 1).C,.slice (p4 1).A' (p4 1).N' (p4 1).C']) 1 0,.v 57 (.pointer (some ⟨(p1 0).N,0,none⟩)),.l 58 (.bool g) 0 0,.c (some 59) (cV (.tuple #[.int .u64 (za:Int),.int .u8 (fa:Int),.int .i64 0])),.v 54 (.tuple #[.int .u64 (za:Int),.int .u8 (fa:Int),.int .i64 0]),.v 60 (.int .u64 (za:Int)),.v 61 (.int .u8 (fa:Int)),.v 62 (.int .i64 0),.v 10 (.int .u64 (za:Int)),.v 11 (.int .u8 (fa:Int)),.v 12 (.int .i64 0)]) (fun p8=>[(1,.pointer (some ⟨(p1 0).N,0,none⟩)),(2,.bool false),(3,.bool true),(4,.pointer (some ⟨(p4 5).N,0,none⟩)),(6,.float .f64 za),(7,.bool true),(8,.float .f32 0),(9,.bool false),(10,.int .u64 (za:Int)),(12,.int .i64 0),(35,.bool false),(43,.bool false)]) (by kernel_rfl) (fun _ _=>by kernel_rfl) (fun _=>by kernel_rfl) (fun _=>by kernel_rfl) (fun p8=>?_) (fun p8 W8 T hF hK=>?_)
 ·refine ok_v (by kernel_rfl) ?_
  refine ok_L (by kernel_rfl) (by kernel_rfl) (by kernel_rfl) ?_
  refine ok_v (by kernel_rfl) ?_
  refine ok_L (by kernel_rfl) (by kernel_rfl) (by kernel_rfl) ?_
  refine ok_c (fun W cx=>as_v (unhide HA _ _ _ (p4 1).C _ _ (p4 1).C' (hT.kept cx.fr) (Mine.num cx.G.1) (Mine.num cx.G.2.1))) (by kernel_rfl) ?_
  iterate 7 refine ok_v (by kernel_rfl) ?_
  exact ok_nil
 replace hS:=SymF.fb hS hF [0,1] [⟨(p1 0).N,#[.bool g,.string s,.int .i64 x],23,true⟩,⟨(p4 5).N,#[.bool q,.slice (p4 1).A (p4 1).N (p4 1).C,.slice (p4 1).A' (p4 1).N' (p4 1).C'],31,true⟩] (by kernel_rfl) (by kernel_rfl)
 replace hG:=hF.gx
 clear hF
 have z8:=hS.fr.size
 refine wp_symQ hS hG hK (fun p9=>[.v 64 (.agg #[.int .i64 8,.int .i64 23]),.l 65 (.agg #[.bool q,.slice (p4 1).A (p4 1).N (p4 1).C,.slice (p4 1).A' (p4 1).N' (p4 1).C']) 1 0,.v 66 (.pointer (some ⟨(p1 0).N,0,none⟩)),.l 67 (.bool g) 0 0,.c (some 68) (cV (.tuple #[.int .u64 (bb:Int),.int .u8 (fb:Int),.int .i64 0])),.v 63 (.tuple #[.int .u64 (bb:Int),.int .u8 (fb:Int),.int .i64 0]),.v 69 (.int .u64 (bb:Int)),.v 70 (.int .u8 (fb:Int)),.v 71 (.int .i64 0),.v 13 (.int .u64 (bb:Int)),.v 14 (.int .u8 (fb:Int)),.v 15 (.int .i64 0)]) (fun p9=>[(1,.pointer (some ⟨(p1 0).N,0,none⟩)),(2,.bool false),(3,.bool true),(6,.float .f64 za),(7,.bool true),(8,.float .f32 0),(9,.bool false),(10,.int .u64 (za:Int)),(12,.int .i64 0),(13,.int .u64 (bb:Int)),(15,.int .i64 0),(35,.bool false),(43,.bool false)]) (by kernel_rfl) (fun _ _=>by kernel_rfl) (fun _=>by kernel_rfl) (fun _=>by kernel_rfl) (fun p9=>?_) (fun p9 W9 T hF hK=>?_)
 ·refine ok_v (by kernel_rfl) ?_
  refine ok_L (by kernel_rfl) (by kernel_rfl) (by kernel_rfl) ?_
  refine ok_v (by kernel_rfl) ?_
  refine ok_L (by kernel_rfl) (by kernel_rfl) (by kernel_rfl) ?_
  refine ok_c (fun W cx=>as_v (unhide HB _ _ _ (p4 1).C _ _ (p4 1).C' (hT.kept cx.fr) (Mine.num cx.G.1) (Mine.num cx.G.2.1))) (by kernel_rfl) ?_
  iterate 7 refine ok_v (by kernel_rfl) ?_
  exact ok_nil
 replace hS:=SymF.fb hS hF [0] [⟨(p1 0).N,#[.bool g,.string s,.int .i64 x],23,true⟩] (by kernel_rfl) (by kernel_rfl)
 replace hG:=hF.gx
 clear hF
 have z9:=hS.fr.size
 refine wp_seq ?_
 refine wp_symQ hS hG hK (fun p10=>[.v 72 (.bool true),.v 73 (.bool false),.v 74 (.bool false),.v 75 (.int .i64 0),.v 76 (.bool false),.v 77 (.bool false),.v 78 (.bool false),.v 79 (.int .i64 0),.v 80 (.bool false),.v 81 (.bool false),.v 82 (.bool false),.v 83 (.bool true),.l 84 (.agg #[.bool g,.string s,.int .i64 x]) 0 0,.c (some 85) (cV (.bool true)),.v 86 (.bool false),.v 87 (.bool false)]) (fun p10=>[(2,.bool false),(3,.bool true),(6,.float .f64 za),(7,.bool true),(8,.float .f32 0),(9,.bool false),(10,.int .u64 (za:Int)),(13,.int .u64 (bb:Int)),(35,.bool false),(43,.bool false),(87,.bool false)]) (by kernel_rfl) (fun _ _=>by kernel_rfl) (fun _=>by kernel_rfl) (fun _=>by kernel_rfl) (fun p10=>?_) (fun p10 W10 T hF hK=>?_)
 ·iterate 12 refine ok_v (by kernel_rfl) ?_
  refine ok_L (by kernel_rfl) (by kernel_rfl) (by kernel_rfl) ?_
  refine ok_c (fun W cx=>as_v (unhide HF _)) (by kernel_rfl) ?_
  iterate 2 refine ok_v (by kernel_rfl) ?_
  exact ok_nil
 replace hS:=SymF.fb hS hF [] [] (by kernel_rfl) (by kernel_rfl)
 replace hG:=hF.gx
 clear hF
 have z10:=hS.fr.size
 refine wp_cond_false (hK.ev 87 (by kernel_rfl) _ (by kernel_rfl)) ?_
 refine wp_skip ?_
 refine then_n ?_
 refine wp_seq ?_
 refine wp_symQ hS hG hK (fun p11=>[.v 88 (.bool true),.v 89 (.bool true),.v 90 (.float .f64 za),.v 91 (.int .u64 (za:Int)),.v 92 (.int .u64 (za:Int)),.v 93 (.bool false),.v 94 (.bool false),.v 95 (.bool false),.v 96 (.bool false),.v 97 (.bool false),.k (some 98),.k (some 99),.k (some 100),.k (some 101),.k (some 102),.v 103 (.bool false),.v 104 (.bool false)]) (fun p11=>[(2,.bool false),(3,.bool true),(6,.float .f64 za),(7,.bool true),(8,.float .f32 0),(9,.bool false),(35,.bool false),(43,.bool false),(87,.bool false),(104,.bool false)]) (by kernel_rfl) (fun _ _=>by kernel_rfl) (fun _=>by kernel_rfl) (fun _=>by kernel_rfl) (fun p11=>?_) (fun p11 W11 T hF hK=>?_)
 ·iterate 5 refine ok_v (by kernel_rfl) ?_
  refine ok_vb (bne_self_eq_false (za:Int)) (by kernel_rfl) ?_
  iterate 4 refine ok_v (by kernel_rfl) ?_
  iterate 5 refine ok_K (by kernel_rfl) ?_
  iterate 2 refine ok_v (by kernel_rfl) ?_
  exact ok_nil
 replace hS:=SymF.fb hS hF [] [] (by kernel_rfl) (by kernel_rfl)
 replace hG:=hF.gx
 clear hF
 have z11:=hS.fr.size
 refine wp_cond_false (hK.ev 104 (by kernel_rfl) _ (by kernel_rfl)) ?_
 refine wp_skip ?_
 refine then_n ?_
 refine wp_symQ hS hG hK (fun p12=>[.v 105 (.bool true),.v 106 (.bool true),.k (some 107),.k (some 108),.k (some 109),.v 110 (.bool true),.v 111 (.bool true),.v 112 (.bool false),.v 113 (.bool false),.v 114 (.float .f32 0),.v 115 (.int .u32 0),.v 116 (.bool true),.v 117 (.bool true),.v 118 (.bool true),.v 2 (.bool true)]) (fun p12=>[(2,.bool true),(3,.bool true),(35,.bool false),(43,.bool false),(87,.bool false),(104,.bool false)]) (by kernel_rfl) (fun _ _=>by kernel_rfl) (fun _=>by kernel_rfl) (fun _=>by kernel_rfl) (fun p12=>?_) (fun p12 W12 T hF hK=>?_)
 ·iterate 2 refine ok_v (by kernel_rfl) ?_
  iterate 3 refine ok_K (by kernel_rfl) ?_
  iterate 10 refine ok_v (by kernel_rfl) ?_
  exact ok_nil
 replace hS:=SymF.fb hS hF [] [] (by kernel_rfl) (by kernel_rfl)
 replace hG:=hF.gx
 clear hF
 have z12:=hS.fr.size
 refine wp_ret ?_
 exact sym_end hS hK (.bool true) [] [] (by kernel_rfl) (by kernel_rfl) ⟨rfl,hS.fr⟩
theorem qr_ft (w:World) (g:Bool) (s:ByteArray) (x:Int) (q:Bool) (R S fa fb ba zb:Nat) (hT:Tb w) (hl:s.size≤40) (hx0:-400≤x) (hx1:x≤400) (hz:zb < 4294967296) (H0:Hid (∀ W:World,Calls Tryz.prog 5 #[] W fun e W'=>e = .returned (.bool true)∧Below W.heap.size W W')) (HC:Hid (∀ W:World,Calls Tryz.prog 6 #[.agg #[.bool g,.string s,.int .i64 x]] W fun e W'=>e = .returned (.int .i64 0)∧Below W.heap.size W W')) (HQ:Hid (∀ W:World,Calls Tryz.prog 7 #[.agg #[.bool g,.string s,.int .i64 x]] W fun en W'=>(∃ a n c a' n' c',en = .returned (.tuple #[.agg #[.bool q,.slice a n c,.slice a' n' c'],.int .i64 0])∧Mine W' W.heap.size a n c R∧Mine W' W.heap.size a' n' c' S)∧Below W.heap.size W W')) (HD:Hid (∀ W:World,Calls Tryz.prog 8 #[.agg #[.bool g,.string s,.int .i64 x]] W fun e W'=>e = .returned (.tuple #[.float .f64 0,.bool false])∧Below W.heap.size W W')) (HS:Hid (∀ W:World,Calls Tryz.prog 9 #[.agg #[.bool g,.string s,.int .i64 x]] W fun e W'=>e = .returned (.tuple #[.float .f32 zb,.bool true])∧Below W.heap.size W W')) (HF:Hid (∀ W:World,Calls Tryz.prog 11 #[.agg #[.bool g,.string s,.int .i64 x]] W fun e W'=>e = .returned (.bool false)∧Below W.heap.size W W')) (HA:Hid (∀ (W:World) (A:Option Addr) (N C:Nat) (A':Option Addr) (N' C':Nat),Tb W→Num W A N R→Num W A' N' S→Calls Tryz.prog 10 #[.agg #[.int .i64 11,.int .i64 52],.agg #[.bool q,.slice A N C,.slice A' N' C'],.bool g,.int .u8 0] W fun e W'=>e = .returned (.tuple #[.int .u64 (ba:Int),.int .u8 (fa:Int),.int .i64 0])∧Below W.heap.size W W')) (HB:Hid (∀ (W:World) (A:Option Addr) (N C:Nat) (A':Option Addr) (N' C':Nat),Tb W→Num W A N R→Num W A' N' S→Calls Tryz.prog 10 #[.agg #[.int .i64 8,.int .i64 23],.agg #[.bool q,.slice A N C,.slice A' N' C'],.bool g,.int .u8 0] W fun e W'=>e = .returned (.tuple #[.int .u64 (zb:Int),.int .u8 (fb:Int),.int .i64 0])∧Below W.heap.size W W')) :
  Calls Tryz.prog 3 #[.agg #[.bool g,.string s,.int .i64 x]] w fun en w'=>en = .returned (.bool true)∧Below w.heap.size w w':=by
 refine calls_sym Tryz.func3 rfl (by kernel_rfl) fun T hK=>?_
 replace hK:Kn T _ [(0,.agg #[.bool g,.string s,.int .i64 x])]:=hK
 have hS:=Fb.begin w
 have hG:GsAt [] w:=trivial
 refine wp_symQ hS hG hK (fun p1=>[.n 1 #[.bool g,.string s,.int .i64 x] 23,.v 2 (.bool false)]) (fun p1=>[(1,.pointer (some ⟨(p1 0).N,0,none⟩)),(2,.bool false)]) (by kernel_rfl) (fun _ _=>by kernel_rfl) (fun _=>by kernel_rfl) (fun _=>by kernel_rfl) (fun p1=>?_) (fun p1 W1 T hF hK=>?_)
 ·refine ok_n (fun _=>by kernel_rfl) ?_
  refine ok_v (by kernel_rfl) ?_
  exact ok_nil
 replace hS:=SymF.fb hS hF [1000] [⟨(p1 0).N,#[.bool g,.string s,.int .i64 x],23,true⟩] (by kernel_rfl) (by kernel_rfl)
 replace hG:=hF.gx
 clear hF
 have z1:=hS.fr.size
 refine wp_symQ hS hG hK (fun p2=>[.c (some 16) (cV (.bool true)),.v 3 (.bool true)]) (fun p2=>[(1,.pointer (some ⟨(p1 0).N,0,none⟩)),(2,.bool false),(3,.bool true)]) (by kernel_rfl) (fun _ _=>by kernel_rfl) (fun _=>by kernel_rfl) (fun _=>by kernel_rfl) (fun p2=>?_) (fun p2 W2 T hF hK=>?_)
 ·refine ok_c (fun W cx=>as_v (unhide H0 _)) (by kernel_rfl) ?_
  refine ok_v (by kernel_rfl) ?_
  exact ok_nil
 replace hS:=SymF.fb hS hF [0] [⟨(p1 0).N,#[.bool g,.string s,.int .i64 x],23,true⟩] (by kernel_rfl) (by kernel_rfl)
 replace hG:=hF.gx
 clear hF
 have z2:=hS.fr.size
 refine wp_seq ?_
 refine wp_symQ hS hG hK (fun p3=>[.v 17 (.pointer (some ⟨(p1 0).N,1,none⟩)),.l 18 (.string s) 0 1,.v 19 (.int .i64 (s.size:Int)),.v 20 (.bool false),.v 21 (.bool false),.v 22 (.pointer (some ⟨(p1 0).N,2,none⟩)),.l 23 (.int .i64 x) 0 2,.v 24 (.bool false),.v 25 (.bool false),.v 26 (.bool false),.v 27 (.pointer (some ⟨(p1 0).N,2,none⟩)),.l 28 (.int .i64 x) 0 2,.v 29 (.bool false),.v 30 (.bool false),.v 31 (.bool false),.l 32 (.agg #[.bool g,.string s,.int .i64 x]) 0 0,.c (some 33) (cV (.int .i64 0)),.v 34 (.bool false),.v 35 (.bool false)]) (fun p3=>[(1,.pointer (some ⟨(p1 0).N,0,none⟩)),(2,.bool false),(3,.bool true),(35,.bool false)]) (by kernel_rfl) (fun _ _=>by kernel_rfl) (fun _=>by kernel_rfl) (fun _=>by kernel_rfl) (fun p3=>?_) (fun p3 W3 T hF hK=>?_)
 ·refine ok_v (by kernel_rfl) ?_
  refine ok_L (by kernel_rfl) (by kernel_rfl) (by kernel_rfl) ?_
  refine ok_v (by kernel_rfl) ?_
  refine ok_vb (decide_eq_false (show ¬ (s.size:Int) > 40 by omega)) (by kernel_rfl) ?_
  iterate 2 refine ok_v (by kernel_rfl) ?_
  refine ok_L (by kernel_rfl) (by kernel_rfl) (by kernel_rfl) ?_
  refine ok_vb (decide_eq_false (show ¬ x > 400 by omega)) (by kernel_rfl) ?_
  iterate 3 refine ok_v (by kernel_rfl) ?_
  refine ok_L (by kernel_rfl) (by kernel_rfl) (by kernel_rfl) ?_
  refine ok_vb (decide_eq_false (show ¬ x < (-400) by omega)) (by kernel_rfl) ?_
  iterate 2 refine ok_v (by kernel_rfl) ?_
  refine ok_L (by kernel_rfl) (by kernel_rfl) (by kernel_rfl) ?_
  refine ok_c (fun W cx=>as_v (unhide HC _)) (by kernel_rfl) ?_
  iterate 2 refine ok_v (by kernel_rfl) ?_
  exact ok_nil
 replace hS:=SymF.fb hS hF [0] [⟨(p1 0).N,#[.bool g,.string s,.int .i64 x],23,true⟩] (by kernel_rfl) (by kernel_rfl)
 replace hG:=hF.gx
 clear hF
 have z3:=hS.fr.size
 refine wp_cond_false (hK.ev 35 (by kernel_rfl) _ (by kernel_rfl)) ?_
 refine wp_skip ?_
 refine then_n ?_
 refine wp_symQ hS hG hK (fun p4=>[.l 38 (.agg #[.bool g,.string s,.int .i64 x]) 0 0,.c (some 39) (cH W3.heap.size R S fun x9 y9=>.tuple #[.agg #[.bool q,x9,y9],.int .i64 0]),.v 37 (.tuple #[.agg #[.bool q,.slice (p4 1).A (p4 1).N (p4 1).C,.slice (p4 1).A' (p4 1).N' (p4 1).C'],.int .i64 0]),.v 40 (.agg #[.bool q,.slice (p4 1).A (p4 1).N (p4 1).C,.slice (p4 1).A' (p4 1).N' (p4 1).C']),.v 41 (.int .i64 0),.n 4 #[.bool false,.slice none 0 0,.slice none 0 0] 31,.p 1005 0 [.bool q,.slice (p4 1).A (p4 1).N (p4 1).C,.slice (p4 1).A' (p4 1).N' (p4 1).C'],.v 5 (.int .i64 0)]) (fun p4=>[(1,.pointer (some ⟨(p1 0).N,0,none⟩)),(2,.bool false),(3,.bool true),(4,.pointer (some ⟨(p4 5).N,0,none⟩)),(5,.int .i64 0),(35,.bool false)]) (by kernel_rfl) (fun _ _=>by kernel_rfl) (fun _=>by kernel_rfl) (fun _=>by kernel_rfl) (fun p4=>?_) (fun p4 W4 T hF hK=>?_)
 ·refine ok_L (by kernel_rfl) (by kernel_rfl) (by kernel_rfl) ?_
  refine ok_c (fun W cx=>as_h cx.hb (unhide HQ _)) (by kernel_rfl) ?_
  iterate 3 refine ok_v (by kernel_rfl) ?_
  refine ok_n (fun _=>by kernel_rfl) ?_
  refine ok_P (by kernel_rfl) (by kernel_rfl) (by kernel_rfl) ?_
  refine ok_v (by kernel_rfl) ?_
  exact ok_nil
 replace hS:=SymF.fb hS hF [0,1005] [⟨(p1 0).N,#[.bool g,.string s,.int .i64 x],23,true⟩,⟨(p4 5).N,#[.bool q,.slice (p4 1).A (p4 1).N (p4 1).C,.slice (p4 1).A' (p4 1).N' (p4 1).C'],31,true⟩] (by kernel_rfl) (by kernel_rfl)
 replace hG:GsAt (gM W3.heap.size (p4 1).A (p4 1).N (p4 1).C R :: gM W3.heap.size (p4 1).A' (p4 1).N' (p4 1).C' S :: _) W4:=⟨And.left (hF.fx 1),And.right (hF.fx 1),hF.gx⟩
 clear hF
 have z4:=hS.fr.size
 refine wp_seq ?_
 refine wp_symQ hS hG hK (fun p5=>[.v 42 (.int .i64 0),.v 43 (.bool false)]) (fun p5=>[(1,.pointer (some ⟨(p1 0).N,0,none⟩)),(2,.bool false),(3,.bool true),(4,.pointer (some ⟨(p4 5).N,0,none⟩)),(35,.bool false),(43,.bool false)]) (by kernel_rfl) (fun _ _=>by kernel_rfl) (fun _=>by kernel_rfl) (fun _=>by kernel_rfl) (fun p5=>?_) (fun p5 W5 T hF hK=>?_)
 ·iterate 2 refine ok_v (by kernel_rfl) ?_
  exact ok_nil
 replace hS:=SymF.fb hS hF [0,1] [⟨(p1 0).N,#[.bool g,.string s,.int .i64 x],23,true⟩,⟨(p4 5).N,#[.bool q,.slice (p4 1).A (p4 1).N (p4 1).C,.slice (p4 1).A' (p4 1).N' (p4 1).C'],31,true⟩] (by kernel_rfl) (by kernel_rfl)
 replace hG:=hF.gx
 clear hF
 have z5:=hS.fr.size
 refine wp_cond_false (hK.ev 43 (by kernel_rfl) _ (by kernel_rfl)) ?_
 refine wp_skip ?_
 refine then_n ?_
 refine wp_symQ hS hG hK (fun p6=>[.l 45 (.agg #[.bool g,.string s,.int .i64 x]) 0 0,.c (some 46) (cV (.tuple #[.float .f64 0,.bool false])),.v 44 (.tuple #[.float .f64 0,.bool false]),.v 47 (.float .f64 0),.v 48 (.bool false),.v 6 (.float .f64 0),.v 7 (.bool false)]) (fun p6=>[(1,.pointer (some ⟨(p1 0).N,0,none⟩)),(2,.bool false),(3,.bool true),(4,.pointer (some ⟨(p4 5).N,0,none⟩)),(6,.float .f64 0),(7,.bool false),(35,.bool false),(43,.bool false)]) (by kernel_rfl) (fun _ _=>by kernel_rfl) (fun _=>by kernel_rfl) (fun _=>by kernel_rfl) (fun p6=>?_) (fun p6 W6 T hF hK=>?_)
 ·refine ok_L (by kernel_rfl) (by kernel_rfl) (by kernel_rfl) ?_
  refine ok_c (fun W cx=>as_v (unhide HD _)) (by kernel_rfl) ?_
  iterate 5 refine ok_v (by kernel_rfl) ?_
  exact ok_nil
 replace hS:=SymF.fb hS hF [0,1] [⟨(p1 0).N,#[.bool g,.string s,.int .i64 x],23,true⟩,⟨(p4 5).N,#[.bool q,.slice (p4 1).A (p4 1).N (p4 1).C,.slice (p4 1).A' (p4 1).N' (p4 1).C'],31,true⟩] (by kernel_rfl) (by kernel_rfl)
 replace hG:=hF.gx
 clear hF
 have z6:=hS.fr.size
 refine wp_symQ hS hG hK (fun p7=>[.l 50 (.agg #[.bool g,.string s,.int .i64 x]) 0 0,.c (some 51) (cV (.tuple #[.float .f32 zb,.bool true])),.v 49 (.tuple #[.float .f32 zb,.bool true]),.v 52 (.float .f32 zb),.v 53 (.bool true),.v 8 (.float .f32 zb),.v 9 (.bool true)]) (fun p7=>[(1,.pointer (some ⟨(p1 0).N,0,none⟩)),(2,.bool false),(3,.bool true),(4,.pointer (some ⟨(p4 5).N,0,none⟩)),(6,.float .f64 0),(7,.bool false),(8,.float .f32 zb),(9,.bool true),(35,.bool false),(43,.bool false)]) (by kernel_rfl) (fun _ _=>by kernel_rfl) (fun _=>by kernel_rfl) (fun _=>by kernel_rfl) (fun p7=>?_) (fun p7 W7 T hF hK=>?_)
 ·refine ok_L (by kernel_rfl) (by kernel_rfl) (by kernel_rfl) ?_
  refine ok_c (fun W cx=>as_v (unhide HS _)) (by kernel_rfl) ?_
  iterate 5 refine ok_v (by kernel_rfl) ?_
  exact ok_nil
 replace hS:=SymF.fb hS hF [0,1] [⟨(p1 0).N,#[.bool g,.string s,.int .i64 x],23,true⟩,⟨(p4 5).N,#[.bool q,.slice (p4 1).A (p4 1).N (p4 1).C,.slice (p4 1).A' (p4 1).N' (p4 1).C'],31,true⟩] (by kernel_rfl) (by kernel_rfl)
 replace hG:=hF.gx
 clear hF
 have z7:=hS.fr.size
 refine wp_symQ hS hG hK (fun p8=>[.v 55 (.agg #[.int .i64 11,.int .i64 52]),.l 56 (.agg #[.bool q,.slice (p4 1).A (p4 1).N (p4 1).C,.slice (p4 1).A' (p4 1).N' (p4 1).C']) 1 0,.v 57 (.pointer (some ⟨(p1 0).N,0,none⟩)),.l 58 (.bool g) 0 0,.c (some 59) (cV (.tuple #[.int .u64 (ba:Int),.int .u8 (fa:Int),.int .i64 0])),.v 54 (.tuple #[.int .u64 (ba:Int),.int .u8 (fa:Int),.int .i64 0]),.v 60 (.int .u64 (ba:Int)),.v 61 (.int .u8 (fa:Int)),.v 62 (.int .i64 0),.v 10 (.int .u64 (ba:Int)),.v 11 (.int .u8 (fa:Int)),.v 12 (.int .i64 0)]) (fun p8=>[(1,.pointer (some ⟨(p1 0).N,0,none⟩)),(2,.bool false),(3,.bool true),(4,.pointer (some ⟨(p4 5).N,0,none⟩)),(6,.float .f64 0),(7,.bool false),(8,.float .f32 zb),(9,.bool true),(10,.int .u64 (ba:Int)),(12,.int .i64 0),(35,.bool false),(43,.bool false)]) (by kernel_rfl) (fun _ _=>by kernel_rfl) (fun _=>by kernel_rfl) (fun _=>by kernel_rfl) (fun p8=>?_) (fun p8 W8 T hF hK=>?_)
 ·refine ok_v (by kernel_rfl) ?_
  refine ok_L (by kernel_rfl) (by kernel_rfl) (by kernel_rfl) ?_
  refine ok_v (by kernel_rfl) ?_
  refine ok_L (by kernel_rfl) (by kernel_rfl) (by kernel_rfl) ?_
  refine ok_c (fun W cx=>as_v (unhide HA _ _ _ (p4 1).C _ _ (p4 1).C' (hT.kept cx.fr) (Mine.num cx.G.1) (Mine.num cx.G.2.1))) (by kernel_rfl) ?_
  iterate 7 refine ok_v (by kernel_rfl) ?_
  exact ok_nil
 replace hS:=SymF.fb hS hF [0,1] [⟨(p1 0).N,#[.bool g,.string s,.int .i64 x],23,true⟩,⟨(p4 5).N,#[.bool q,.slice (p4 1).A (p4 1).N (p4 1).C,.slice (p4 1).A' (p4 1).N' (p4 1).C'],31,true⟩] (by kernel_rfl) (by kernel_rfl)
 replace hG:=hF.gx
 clear hF
 have z8:=hS.fr.size
 refine wp_symQ hS hG hK (fun p9=>[.v 64 (.agg #[.int .i64 8,.int .i64 23]),.l 65 (.agg #[.bool q,.slice (p4 1).A (p4 1).N (p4 1).C,.slice (p4 1).A' (p4 1).N' (p4 1).C']) 1 0,.v 66 (.pointer (some ⟨(p1 0).N,0,none⟩)),.l 67 (.bool g) 0 0,.c (some 68) (cV (.tuple #[.int .u64 (zb:Int),.int .u8 (fb:Int),.int .i64 0])),.v 63 (.tuple #[.int .u64 (zb:Int),.int .u8 (fb:Int),.int .i64 0]),.v 69 (.int .u64 (zb:Int)),.v 70 (.int .u8 (fb:Int)),.v 71 (.int .i64 0),.v 13 (.int .u64 (zb:Int)),.v 14 (.int .u8 (fb:Int)),.v 15 (.int .i64 0)]) (fun p9=>[(1,.pointer (some ⟨(p1 0).N,0,none⟩)),(2,.bool false),(3,.bool true),(6,.float .f64 0),(7,.bool false),(8,.float .f32 zb),(9,.bool true),(10,.int .u64 (ba:Int)),(12,.int .i64 0),(13,.int .u64 (zb:Int)),(15,.int .i64 0),(35,.bool false),(43,.bool false)]) (by kernel_rfl) (fun _ _=>by kernel_rfl) (fun _=>by kernel_rfl) (fun _=>by kernel_rfl) (fun p9=>?_) (fun p9 W9 T hF hK=>?_)
 ·refine ok_v (by kernel_rfl) ?_
  refine ok_L (by kernel_rfl) (by kernel_rfl) (by kernel_rfl) ?_
  refine ok_v (by kernel_rfl) ?_
  refine ok_L (by kernel_rfl) (by kernel_rfl) (by kernel_rfl) ?_
  refine ok_c (fun W cx=>as_v (unhide HB _ _ _ (p4 1).C _ _ (p4 1).C' (hT.kept cx.fr) (Mine.num cx.G.1) (Mine.num cx.G.2.1))) (by kernel_rfl) ?_
  iterate 7 refine ok_v (by kernel_rfl) ?_
  exact ok_nil
 replace hS:=SymF.fb hS hF [0] [⟨(p1 0).N,#[.bool g,.string s,.int .i64 x],23,true⟩] (by kernel_rfl) (by kernel_rfl)
 replace hG:=hF.gx
 clear hF
 have z9:=hS.fr.size
 refine wp_seq ?_
 refine wp_symQ hS hG hK (fun p10=>[.v 72 (.bool true),.v 73 (.bool false),.v 74 (.bool false),.v 75 (.int .i64 0),.v 76 (.bool false),.v 77 (.bool false),.v 78 (.bool false),.v 79 (.int .i64 0),.v 80 (.bool false),.v 81 (.bool false),.v 82 (.bool false),.v 83 (.bool false),.l 84 (.agg #[.bool g,.string s,.int .i64 x]) 0 0,.c (some 85) (cV (.bool false)),.v 86 (.bool false),.v 87 (.bool false)]) (fun p10=>[(2,.bool false),(3,.bool true),(6,.float .f64 0),(7,.bool false),(8,.float .f32 zb),(9,.bool true),(10,.int .u64 (ba:Int)),(13,.int .u64 (zb:Int)),(35,.bool false),(43,.bool false),(87,.bool false)]) (by kernel_rfl) (fun _ _=>by kernel_rfl) (fun _=>by kernel_rfl) (fun _=>by kernel_rfl) (fun p10=>?_) (fun p10 W10 T hF hK=>?_)
 ·iterate 12 refine ok_v (by kernel_rfl) ?_
  refine ok_L (by kernel_rfl) (by kernel_rfl) (by kernel_rfl) ?_
  refine ok_c (fun W cx=>as_v (unhide HF _)) (by kernel_rfl) ?_
  iterate 2 refine ok_v (by kernel_rfl) ?_
  exact ok_nil
 replace hS:=SymF.fb hS hF [] [] (by kernel_rfl) (by kernel_rfl)
 replace hG:=hF.gx
 clear hF
 have z10:=hS.fr.size
 refine wp_cond_false (hK.ev 87 (by kernel_rfl) _ (by kernel_rfl)) ?_
 refine wp_skip ?_
 refine then_n ?_
 refine wp_seq ?_
 refine wp_symQ hS hG hK (fun p11=>[.v 88 (.bool false),.v 89 (.bool false),.k (some 90),.k (some 91),.k (some 92),.k (some 93),.v 94 (.bool false),.v 95 (.bool false),.v 96 (.bool true),.v 97 (.bool true),.v 98 (.float .f32 zb),.v 99 (.int .u32 (zb:Int)),.v 100 (.int .u64 (zb:Int)),.v 101 (.int .u64 (zb:Int)),.v 102 (.bool false),.v 103 (.bool false),.v 104 (.bool false)]) (fun p11=>[(2,.bool false),(3,.bool true),(6,.float .f64 0),(7,.bool false),(8,.float .f32 zb),(9,.bool true),(35,.bool false),(43,.bool false),(87,.bool false),(104,.bool false)]) (by kernel_rfl) (fun _ _=>by kernel_rfl) (fun _=>by kernel_rfl) (fun _=>by kernel_rfl) (fun p11=>?_) (fun p11 W11 T hF hK=>?_)
 ·iterate 2 refine ok_v (by kernel_rfl) ?_
  iterate 4 refine ok_K (by kernel_rfl) ?_
  iterate 6 refine ok_v (by kernel_rfl) ?_
  refine ok_vi (wrQ (x:=(zb:Int)) (by omega) (by omega)) (by kernel_rfl) ?_
  refine ok_v (by kernel_rfl) ?_
  refine ok_vb (bne_self_eq_false (zb:Int)) (by kernel_rfl) ?_
  iterate 2 refine ok_v (by kernel_rfl) ?_
  exact ok_nil
 replace hS:=SymF.fb hS hF [] [] (by kernel_rfl) (by kernel_rfl)
 replace hG:=hF.gx
 clear hF
 have z11:=hS.fr.size
 refine wp_cond_false (hK.ev 104 (by kernel_rfl) _ (by kernel_rfl)) ?_
 refine wp_skip ?_
 refine then_n ?_
 refine wp_symQ hS hG hK (fun p12=>[.v 105 (.bool false),.v 106 (.bool false),.v 107 (.float .f64 0),.v 108 (.int .u64 0),.v 109 (.bool true),.v 110 (.bool true),.v 111 (.bool true),.v 112 (.bool true),.v 113 (.bool true),.k (some 114),.k (some 115),.k (some 116),.v 117 (.bool true),.v 118 (.bool true),.v 2 (.bool true)]) (fun p12=>[(2,.bool true),(3,.bool true),(35,.bool false),(43,.bool false),(87,.bool false),(104,.bool false)]) (by kernel_rfl) (fun _ _=>by kernel_rfl) (fun _=>by kernel_rfl) (fun _=>by kernel_rfl) (fun p12=>?_) (fun p12 W12 T hF hK=>?_)
 ·iterate 9 refine ok_v (by kernel_rfl) ?_
  iterate 3 refine ok_K (by kernel_rfl) ?_
  iterate 3 refine ok_v (by kernel_rfl) ?_
  exact ok_nil
 replace hS:=SymF.fb hS hF [] [] (by kernel_rfl) (by kernel_rfl)
 replace hG:=hF.gx
 clear hF
 have z12:=hS.fr.size
 refine wp_ret ?_
 exact sym_end hS hK (.bool true) [] [] (by kernel_rfl) (by kernel_rfl) ⟨rfl,hS.fr⟩
theorem qr_ff (w:World) (g:Bool) (s:ByteArray) (x:Int) (q:Bool) (R S fa fb ba bb:Nat) (hT:Tb w) (hl:s.size≤40) (hx0:-400≤x) (hx1:x≤400) (H0:Hid (∀ W:World,Calls Tryz.prog 5 #[] W fun e W'=>e = .returned (.bool true)∧Below W.heap.size W W')) (HC:Hid (∀ W:World,Calls Tryz.prog 6 #[.agg #[.bool g,.string s,.int .i64 x]] W fun e W'=>e = .returned (.int .i64 0)∧Below W.heap.size W W')) (HQ:Hid (∀ W:World,Calls Tryz.prog 7 #[.agg #[.bool g,.string s,.int .i64 x]] W fun en W'=>(∃ a n c a' n' c',en = .returned (.tuple #[.agg #[.bool q,.slice a n c,.slice a' n' c'],.int .i64 0])∧Mine W' W.heap.size a n c R∧Mine W' W.heap.size a' n' c' S)∧Below W.heap.size W W')) (HD:Hid (∀ W:World,Calls Tryz.prog 8 #[.agg #[.bool g,.string s,.int .i64 x]] W fun e W'=>e = .returned (.tuple #[.float .f64 0,.bool false])∧Below W.heap.size W W')) (HS:Hid (∀ W:World,Calls Tryz.prog 9 #[.agg #[.bool g,.string s,.int .i64 x]] W fun e W'=>e = .returned (.tuple #[.float .f32 0,.bool false])∧Below W.heap.size W W')) (HF:Hid (∀ W:World,Calls Tryz.prog 11 #[.agg #[.bool g,.string s,.int .i64 x]] W fun e W'=>e = .returned (.bool false)∧Below W.heap.size W W')) (HA:Hid (∀ (W:World) (A:Option Addr) (N C:Nat) (A':Option Addr) (N' C':Nat),Tb W→Num W A N R→Num W A' N' S→Calls Tryz.prog 10 #[.agg #[.int .i64 11,.int .i64 52],.agg #[.bool q,.slice A N C,.slice A' N' C'],.bool g,.int .u8 0] W fun e W'=>e = .returned (.tuple #[.int .u64 (ba:Int),.int .u8 (fa:Int),.int .i64 0])∧Below W.heap.size W W')) (HB:Hid (∀ (W:World) (A:Option Addr) (N C:Nat) (A':Option Addr) (N' C':Nat),Tb W→Num W A N R→Num W A' N' S→Calls Tryz.prog 10 #[.agg #[.int .i64 8,.int .i64 23],.agg #[.bool q,.slice A N C,.slice A' N' C'],.bool g,.int .u8 0] W fun e W'=>e = .returned (.tuple #[.int .u64 (bb:Int),.int .u8 (fb:Int),.int .i64 0])∧Below W.heap.size W W')) :
  Calls Tryz.prog 3 #[.agg #[.bool g,.string s,.int .i64 x]] w fun en w'=>en = .returned (.bool true)∧Below w.heap.size w w':=by
 refine calls_sym Tryz.func3 rfl (by kernel_rfl) fun T hK=>?_
 replace hK:Kn T _ [(0,.agg #[.bool g,.string s,.int .i64 x])]:=hK
 have hS:=Fb.begin w
 have hG:GsAt [] w:=trivial
 refine wp_symQ hS hG hK (fun p1=>[.n 1 #[.bool g,.string s,.int .i64 x] 23,.v 2 (.bool false)]) (fun p1=>[(1,.pointer (some ⟨(p1 0).N,0,none⟩)),(2,.bool false)]) (by kernel_rfl) (fun _ _=>by kernel_rfl) (fun _=>by kernel_rfl) (fun _=>by kernel_rfl) (fun p1=>?_) (fun p1 W1 T hF hK=>?_)
 ·refine ok_n (fun _=>by kernel_rfl) ?_
  refine ok_v (by kernel_rfl) ?_
  exact ok_nil
 replace hS:=SymF.fb hS hF [1000] [⟨(p1 0).N,#[.bool g,.string s,.int .i64 x],23,true⟩] (by kernel_rfl) (by kernel_rfl)
 replace hG:=hF.gx
 clear hF
 have z1:=hS.fr.size
 refine wp_symQ hS hG hK (fun p2=>[.c (some 16) (cV (.bool true)),.v 3 (.bool true)]) (fun p2=>[(1,.pointer (some ⟨(p1 0).N,0,none⟩)),(2,.bool false),(3,.bool true)]) (by kernel_rfl) (fun _ _=>by kernel_rfl) (fun _=>by kernel_rfl) (fun _=>by kernel_rfl) (fun p2=>?_) (fun p2 W2 T hF hK=>?_)
 ·refine ok_c (fun W cx=>as_v (unhide H0 _)) (by kernel_rfl) ?_
  refine ok_v (by kernel_rfl) ?_
  exact ok_nil
 replace hS:=SymF.fb hS hF [0] [⟨(p1 0).N,#[.bool g,.string s,.int .i64 x],23,true⟩] (by kernel_rfl) (by kernel_rfl)
 replace hG:=hF.gx
 clear hF
 have z2:=hS.fr.size
 refine wp_seq ?_
 refine wp_symQ hS hG hK (fun p3=>[.v 17 (.pointer (some ⟨(p1 0).N,1,none⟩)),.l 18 (.string s) 0 1,.v 19 (.int .i64 (s.size:Int)),.v 20 (.bool false),.v 21 (.bool false),.v 22 (.pointer (some ⟨(p1 0).N,2,none⟩)),.l 23 (.int .i64 x) 0 2,.v 24 (.bool false),.v 25 (.bool false),.v 26 (.bool false),.v 27 (.pointer (some ⟨(p1 0).N,2,none⟩)),.l 28 (.int .i64 x) 0 2,.v 29 (.bool false),.v 30 (.bool false),.v 31 (.bool false),.l 32 (.agg #[.bool g,.string s,.int .i64 x]) 0 0,.c (some 33) (cV (.int .i64 0)),.v 34 (.bool false),.v 35 (.bool false)]) (fun p3=>[(1,.pointer (some ⟨(p1 0).N,0,none⟩)),(2,.bool false),(3,.bool true),(35,.bool false)]) (by kernel_rfl) (fun _ _=>by kernel_rfl) (fun _=>by kernel_rfl) (fun _=>by kernel_rfl) (fun p3=>?_) (fun p3 W3 T hF hK=>?_)
 ·refine ok_v (by kernel_rfl) ?_
  refine ok_L (by kernel_rfl) (by kernel_rfl) (by kernel_rfl) ?_
  refine ok_v (by kernel_rfl) ?_
  refine ok_vb (decide_eq_false (show ¬ (s.size:Int) > 40 by omega)) (by kernel_rfl) ?_
  iterate 2 refine ok_v (by kernel_rfl) ?_
  refine ok_L (by kernel_rfl) (by kernel_rfl) (by kernel_rfl) ?_
  refine ok_vb (decide_eq_false (show ¬ x > 400 by omega)) (by kernel_rfl) ?_
  iterate 3 refine ok_v (by kernel_rfl) ?_
  refine ok_L (by kernel_rfl) (by kernel_rfl) (by kernel_rfl) ?_
  refine ok_vb (decide_eq_false (show ¬ x < (-400) by omega)) (by kernel_rfl) ?_
  iterate 2 refine ok_v (by kernel_rfl) ?_
  refine ok_L (by kernel_rfl) (by kernel_rfl) (by kernel_rfl) ?_
  refine ok_c (fun W cx=>as_v (unhide HC _)) (by kernel_rfl) ?_
  iterate 2 refine ok_v (by kernel_rfl) ?_
  exact ok_nil
 replace hS:=SymF.fb hS hF [0] [⟨(p1 0).N,#[.bool g,.string s,.int .i64 x],23,true⟩] (by kernel_rfl) (by kernel_rfl)
 replace hG:=hF.gx
 clear hF
 have z3:=hS.fr.size
 refine wp_cond_false (hK.ev 35 (by kernel_rfl) _ (by kernel_rfl)) ?_
 refine wp_skip ?_
 refine then_n ?_
 refine wp_symQ hS hG hK (fun p4=>[.l 38 (.agg #[.bool g,.string s,.int .i64 x]) 0 0,.c (some 39) (cH W3.heap.size R S fun x9 y9=>.tuple #[.agg #[.bool q,x9,y9],.int .i64 0]),.v 37 (.tuple #[.agg #[.bool q,.slice (p4 1).A (p4 1).N (p4 1).C,.slice (p4 1).A' (p4 1).N' (p4 1).C'],.int .i64 0]),.v 40 (.agg #[.bool q,.slice (p4 1).A (p4 1).N (p4 1).C,.slice (p4 1).A' (p4 1).N' (p4 1).C']),.v 41 (.int .i64 0),.n 4 #[.bool false,.slice none 0 0,.slice none 0 0] 31,.p 1005 0 [.bool q,.slice (p4 1).A (p4 1).N (p4 1).C,.slice (p4 1).A' (p4 1).N' (p4 1).C'],.v 5 (.int .i64 0)]) (fun p4=>[(1,.pointer (some ⟨(p1 0).N,0,none⟩)),(2,.bool false),(3,.bool true),(4,.pointer (some ⟨(p4 5).N,0,none⟩)),(5,.int .i64 0),(35,.bool false)]) (by kernel_rfl) (fun _ _=>by kernel_rfl) (fun _=>by kernel_rfl) (fun _=>by kernel_rfl) (fun p4=>?_) (fun p4 W4 T hF hK=>?_)
 ·refine ok_L (by kernel_rfl) (by kernel_rfl) (by kernel_rfl) ?_
  refine ok_c (fun W cx=>as_h cx.hb (unhide HQ _)) (by kernel_rfl) ?_
  iterate 3 refine ok_v (by kernel_rfl) ?_
  refine ok_n (fun _=>by kernel_rfl) ?_
  refine ok_P (by kernel_rfl) (by kernel_rfl) (by kernel_rfl) ?_
  refine ok_v (by kernel_rfl) ?_
  exact ok_nil
 replace hS:=SymF.fb hS hF [0,1005] [⟨(p1 0).N,#[.bool g,.string s,.int .i64 x],23,true⟩,⟨(p4 5).N,#[.bool q,.slice (p4 1).A (p4 1).N (p4 1).C,.slice (p4 1).A' (p4 1).N' (p4 1).C'],31,true⟩] (by kernel_rfl) (by kernel_rfl)
 replace hG:GsAt (gM W3.heap.size (p4 1).A (p4 1).N (p4 1).C R :: gM W3.heap.size (p4 1).A' (p4 1).N' (p4 1).C' S :: _) W4:=⟨And.left (hF.fx 1),And.right (hF.fx 1),hF.gx⟩
 clear hF
 have z4:=hS.fr.size
 refine wp_seq ?_
 refine wp_symQ hS hG hK (fun p5=>[.v 42 (.int .i64 0),.v 43 (.bool false)]) (fun p5=>[(1,.pointer (some ⟨(p1 0).N,0,none⟩)),(2,.bool false),(3,.bool true),(4,.pointer (some ⟨(p4 5).N,0,none⟩)),(35,.bool false),(43,.bool false)]) (by kernel_rfl) (fun _ _=>by kernel_rfl) (fun _=>by kernel_rfl) (fun _=>by kernel_rfl) (fun p5=>?_) (fun p5 W5 T hF hK=>?_)
 ·iterate 2 refine ok_v (by kernel_rfl) ?_
  exact ok_nil
 replace hS:=SymF.fb hS hF [0,1] [⟨(p1 0).N,#[.bool g,.string s,.int .i64 x],23,true⟩,⟨(p4 5).N,#[.bool q,.slice (p4 1).A (p4 1).N (p4 1).C,.slice (p4 1).A' (p4 1).N' (p4 1).C'],31,true⟩] (by kernel_rfl) (by kernel_rfl)
 replace hG:=hF.gx
 clear hF
 have z5:=hS.fr.size
 refine wp_cond_false (hK.ev 43 (by kernel_rfl) _ (by kernel_rfl)) ?_
 refine wp_skip ?_
 refine then_n ?_
 refine wp_symQ hS hG hK (fun p6=>[.l 45 (.agg #[.bool g,.string s,.int .i64 x]) 0 0,.c (some 46) (cV (.tuple #[.float .f64 0,.bool false])),.v 44 (.tuple #[.float .f64 0,.bool false]),.v 47 (.float .f64 0),.v 48 (.bool false),.v 6 (.float .f64 0),.v 7 (.bool false)]) (fun p6=>[(1,.pointer (some ⟨(p1 0).N,0,none⟩)),(2,.bool false),(3,.bool true),(4,.pointer (some ⟨(p4 5).N,0,none⟩)),(6,.float .f64 0),(7,.bool false),(35,.bool false),(43,.bool false)]) (by kernel_rfl) (fun _ _=>by kernel_rfl) (fun _=>by kernel_rfl) (fun _=>by kernel_rfl) (fun p6=>?_) (fun p6 W6 T hF hK=>?_)
 ·refine ok_L (by kernel_rfl) (by kernel_rfl) (by kernel_rfl) ?_
  refine ok_c (fun W cx=>as_v (unhide HD _)) (by kernel_rfl) ?_
  iterate 5 refine ok_v (by kernel_rfl) ?_
  exact ok_nil
 replace hS:=SymF.fb hS hF [0,1] [⟨(p1 0).N,#[.bool g,.string s,.int .i64 x],23,true⟩,⟨(p4 5).N,#[.bool q,.slice (p4 1).A (p4 1).N (p4 1).C,.slice (p4 1).A' (p4 1).N' (p4 1).C'],31,true⟩] (by kernel_rfl) (by kernel_rfl)
 replace hG:=hF.gx
 clear hF
 have z6:=hS.fr.size
 refine wp_symQ hS hG hK (fun p7=>[.l 50 (.agg #[.bool g,.string s,.int .i64 x]) 0 0,.c (some 51) (cV (.tuple #[.float .f32 0,.bool false])),.v 49 (.tuple #[.float .f32 0,.bool false]),.v 52 (.float .f32 0),.v 53 (.bool false),.v 8 (.float .f32 0),.v 9 (.bool false)]) (fun p7=>[(1,.pointer (some ⟨(p1 0).N,0,none⟩)),(2,.bool false),(3,.bool true),(4,.pointer (some ⟨(p4 5).N,0,none⟩)),(6,.float .f64 0),(7,.bool false),(8,.float .f32 0),(9,.bool false),(35,.bool false),(43,.bool false)]) (by kernel_rfl) (fun _ _=>by kernel_rfl) (fun _=>by kernel_rfl) (fun _=>by kernel_rfl) (fun p7=>?_) (fun p7 W7 T hF hK=>?_)
 ·refine ok_L (by kernel_rfl) (by kernel_rfl) (by kernel_rfl) ?_
  refine ok_c (fun W cx=>as_v (unhide HS _)) (by kernel_rfl) ?_
  iterate 5 refine ok_v (by kernel_rfl) ?_
  exact ok_nil
 replace hS:=SymF.fb hS hF [0,1] [⟨(p1 0).N,#[.bool g,.string s,.int .i64 x],23,true⟩,⟨(p4 5).N,#[.bool q,.slice (p4 1).A (p4 1).N (p4 1).C,.slice (p4 1).A' (p4 1).N' (p4 1).C'],31,true⟩] (by kernel_rfl) (by kernel_rfl)
 replace hG:=hF.gx
 clear hF
 have z7:=hS.fr.size
 refine wp_symQ hS hG hK (fun p8=>[.v 55 (.agg #[.int .i64 11,.int .i64 52]),.l 56 (.agg #[.bool q,.slice (p4 1).A (p4 1).N (p4 1).C,.slice (p4 1).A' (p4 1).N' (p4 1).C']) 1 0,.v 57 (.pointer (some ⟨(p1 0).N,0,none⟩)),.l 58 (.bool g) 0 0,.c (some 59) (cV (.tuple #[.int .u64 (ba:Int),.int .u8 (fa:Int),.int .i64 0])),.v 54 (.tuple #[.int .u64 (ba:Int),.int .u8 (fa:Int),.int .i64 0]),.v 60 (.int .u64 (ba:Int)),.v 61 (.int .u8 (fa:Int)),.v 62 (.int .i64 0),.v 10 (.int .u64 (ba:Int)),.v 11 (.int .u8 (fa:Int)),.v 12 (.int .i64 0)]) (fun p8=>[(1,.pointer (some ⟨(p1 0).N,0,none⟩)),(2,.bool false),(3,.bool true),(4,.pointer (some ⟨(p4 5).N,0,none⟩)),(6,.float .f64 0),(7,.bool false),(8,.float .f32 0),(9,.bool false),(10,.int .u64 (ba:Int)),(12,.int .i64 0),(35,.bool false),(43,.bool false)]) (by kernel_rfl) (fun _ _=>by kernel_rfl) (fun _=>by kernel_rfl) (fun _=>by kernel_rfl) (fun p8=>?_) (fun p8 W8 T hF hK=>?_)
 ·refine ok_v (by kernel_rfl) ?_
  refine ok_L (by kernel_rfl) (by kernel_rfl) (by kernel_rfl) ?_
  refine ok_v (by kernel_rfl) ?_
  refine ok_L (by kernel_rfl) (by kernel_rfl) (by kernel_rfl) ?_
  refine ok_c (fun W cx=>as_v (unhide HA _ _ _ (p4 1).C _ _ (p4 1).C' (hT.kept cx.fr) (Mine.num cx.G.1) (Mine.num cx.G.2.1))) (by kernel_rfl) ?_
  iterate 7 refine ok_v (by kernel_rfl) ?_
  exact ok_nil
 replace hS:=SymF.fb hS hF [0,1] [⟨(p1 0).N,#[.bool g,.string s,.int .i64 x],23,true⟩,⟨(p4 5).N,#[.bool q,.slice (p4 1).A (p4 1).N (p4 1).C,.slice (p4 1).A' (p4 1).N' (p4 1).C'],31,true⟩] (by kernel_rfl) (by kernel_rfl)
 replace hG:=hF.gx
 clear hF
 have z8:=hS.fr.size
 refine wp_symQ hS hG hK (fun p9=>[.v 64 (.agg #[.int .i64 8,.int .i64 23]),.l 65 (.agg #[.bool q,.slice (p4 1).A (p4 1).N (p4 1).C,.slice (p4 1).A' (p4 1).N' (p4 1).C']) 1 0,.v 66 (.pointer (some ⟨(p1 0).N,0,none⟩)),.l 67 (.bool g) 0 0,.c (some 68) (cV (.tuple #[.int .u64 (bb:Int),.int .u8 (fb:Int),.int .i64 0])),.v 63 (.tuple #[.int .u64 (bb:Int),.int .u8 (fb:Int),.int .i64 0]),.v 69 (.int .u64 (bb:Int)),.v 70 (.int .u8 (fb:Int)),.v 71 (.int .i64 0),.v 13 (.int .u64 (bb:Int)),.v 14 (.int .u8 (fb:Int)),.v 15 (.int .i64 0)]) (fun p9=>[(1,.pointer (some ⟨(p1 0).N,0,none⟩)),(2,.bool false),(3,.bool true),(6,.float .f64 0),(7,.bool false),(8,.float .f32 0),(9,.bool false),(10,.int .u64 (ba:Int)),(12,.int .i64 0),(13,.int .u64 (bb:Int)),(15,.int .i64 0),(35,.bool false),(43,.bool false)]) (by kernel_rfl) (fun _ _=>by kernel_rfl) (fun _=>by kernel_rfl) (fun _=>by kernel_rfl) (fun p9=>?_) (fun p9 W9 T hF hK=>?_)
 ·refine ok_v (by kernel_rfl) ?_
  refine ok_L (by kernel_rfl) (by kernel_rfl) (by kernel_rfl) ?_
  refine ok_v (by kernel_rfl) ?_
  refine ok_L (by kernel_rfl) (by kernel_rfl) (by kernel_rfl) ?_
  refine ok_c (fun W cx=>as_v (unhide HB _ _ _ (p4 1).C _ _ (p4 1).C' (hT.kept cx.fr) (Mine.num cx.G.1) (Mine.num cx.G.2.1))) (by kernel_rfl) ?_
  iterate 7 refine ok_v (by kernel_rfl) ?_
  exact ok_nil
 replace hS:=SymF.fb hS hF [0] [⟨(p1 0).N,#[.bool g,.string s,.int .i64 x],23,true⟩] (by kernel_rfl) (by kernel_rfl)
 replace hG:=hF.gx
 clear hF
 have z9:=hS.fr.size
 refine wp_seq ?_
 refine wp_symQ hS hG hK (fun p10=>[.v 72 (.bool true),.v 73 (.bool false),.v 74 (.bool false),.v 75 (.int .i64 0),.v 76 (.bool false),.v 77 (.bool false),.v 78 (.bool false),.v 79 (.int .i64 0),.v 80 (.bool false),.v 81 (.bool false),.v 82 (.bool false),.v 83 (.bool false),.l 84 (.agg #[.bool g,.string s,.int .i64 x]) 0 0,.c (some 85) (cV (.bool false)),.v 86 (.bool false),.v 87 (.bool false)]) (fun p10=>[(2,.bool false),(3,.bool true),(6,.float .f64 0),(7,.bool false),(8,.float .f32 0),(9,.bool false),(10,.int .u64 (ba:Int)),(13,.int .u64 (bb:Int)),(35,.bool false),(43,.bool false),(87,.bool false)]) (by kernel_rfl) (fun _ _=>by kernel_rfl) (fun _=>by kernel_rfl) (fun _=>by kernel_rfl) (fun p10=>?_) (fun p10 W10 T hF hK=>?_)
 ·iterate 12 refine ok_v (by kernel_rfl) ?_
  refine ok_L (by kernel_rfl) (by kernel_rfl) (by kernel_rfl) ?_
  refine ok_c (fun W cx=>as_v (unhide HF _)) (by kernel_rfl) ?_
  iterate 2 refine ok_v (by kernel_rfl) ?_
  exact ok_nil
 replace hS:=SymF.fb hS hF [] [] (by kernel_rfl) (by kernel_rfl)
 replace hG:=hF.gx
 clear hF
 have z10:=hS.fr.size
 refine wp_cond_false (hK.ev 87 (by kernel_rfl) _ (by kernel_rfl)) ?_
 refine wp_skip ?_
 refine then_n ?_
 refine wp_seq ?_
 refine wp_symQ hS hG hK (fun p11=>[.v 88 (.bool false),.v 89 (.bool false),.k (some 90),.k (some 91),.k (some 92),.k (some 93),.v 94 (.bool false),.v 95 (.bool false),.v 96 (.bool false),.v 97 (.bool false),.k (some 98),.k (some 99),.k (some 100),.k (some 101),.k (some 102),.v 103 (.bool false),.v 104 (.bool false)]) (fun p11=>[(2,.bool false),(3,.bool true),(6,.float .f64 0),(7,.bool false),(8,.float .f32 0),(9,.bool false),(35,.bool false),(43,.bool false),(87,.bool false),(104,.bool false)]) (by kernel_rfl) (fun _ _=>by kernel_rfl) (fun _=>by kernel_rfl) (fun _=>by kernel_rfl) (fun p11=>?_) (fun p11 W11 T hF hK=>?_)
 ·iterate 2 refine ok_v (by kernel_rfl) ?_
  iterate 4 refine ok_K (by kernel_rfl) ?_
  iterate 4 refine ok_v (by kernel_rfl) ?_
  iterate 5 refine ok_K (by kernel_rfl) ?_
  iterate 2 refine ok_v (by kernel_rfl) ?_
  exact ok_nil
 replace hS:=SymF.fb hS hF [] [] (by kernel_rfl) (by kernel_rfl)
 replace hG:=hF.gx
 clear hF
 have z11:=hS.fr.size
 refine wp_cond_false (hK.ev 104 (by kernel_rfl) _ (by kernel_rfl)) ?_
 refine wp_skip ?_
 refine then_n ?_
 refine wp_symQ hS hG hK (fun p12=>[.v 105 (.bool false),.v 106 (.bool false),.v 107 (.float .f64 0),.v 108 (.int .u64 0),.v 109 (.bool true),.v 110 (.bool true),.v 111 (.bool true),.v 112 (.bool false),.v 113 (.bool false),.v 114 (.float .f32 0),.v 115 (.int .u32 0),.v 116 (.bool true),.v 117 (.bool true),.v 118 (.bool true),.v 2 (.bool true)]) (fun p12=>[(2,.bool true),(3,.bool true),(35,.bool false),(43,.bool false),(87,.bool false),(104,.bool false)]) (by kernel_rfl) (fun _ _=>by kernel_rfl) (fun _=>by kernel_rfl) (fun _=>by kernel_rfl) (fun p12=>?_) (fun p12 W12 T hF hK=>?_)
 ·iterate 15 refine ok_v (by kernel_rfl) ?_
  exact ok_nil
 replace hS:=SymF.fb hS hF [] [] (by kernel_rfl) (by kernel_rfl)
 replace hG:=hF.gx
 clear hF
 have z12:=hS.fr.size
 refine wp_ret ?_
 exact sym_end hS hK (.bool true) [] [] (by kernel_rfl) (by kernel_rfl) ⟨rfl,hS.fr⟩
end Go.Proofs.YtdekhacomggpgaaGreatDoor
