/- Of what QuickSureRow stands on: QkW2. -/
import Derived.Test.YtohjmjlfmloiaaaDoorPal
namespace Go.Proofs.YtohjmjlfmloiaaaDoor
open Go.RowKit
set_option maxHeartbeats 2000000
set_option maxRecDepth 20000
theorem qfac_s (w:World) (wh tn:Nat) (g:Bool) (s:ByteArray) (x:Int) (n m:Nat) (b:Bool) (ht:tn≤22) (hx:-(tn:Int)≤x) (hxt:x≤(tn:Int)) (HC:Hid (∀ W:World,Calls Tryd.prog 32 #[.agg #[.bool g,.string s,.int .i64 x]] W fun e W'=>e = .returned (.int .i64 0)∧Below W.heap.size W W')) (HN:Hid (∀ W:World,Calls Tryd.prog 22 #[.string s] W fun e W'=>e = .returned (.tuple #[.int .u64 (n:Int),.bool true])∧Below W.heap.size W W')) (HR:Hid (∀ W:World,Calls Tryd.prog 33 #[.agg #[.int .u64 (wh:Int),.int .i64 (tn:Int)],.int .u64 (n:Int),.int .i64 0] W fun e W'=>e = .returned (.tuple #[.int .u64 (m:Int),.bool b])∧Below W.heap.size W W')) :
  Calls Tryd.prog 21 #[.agg #[.int .u64 (wh:Int),.int .i64 (tn:Int)],.agg #[.bool g,.string s,.int .i64 x]] w fun en w'=>en = .returned (.tuple #[.int .u64 (m:Int),.int .i64 x,.bool b])∧Below w.heap.size w w':=by
 refine calls_sym Tryd.func21 rfl (by kernel_rfl) fun T hK=>?_
 replace hK:Kn T _ [(0,.agg #[.int .u64 (wh:Int),.int .i64 (tn:Int)]),(1,.agg #[.bool g,.string s,.int .i64 x])]:=hK
 have hS:=Fb.begin w
 have hG:GsAt [] w:=trivial
 refine wp_symQ hS hG hK (fun p1=>[.n 2 #[.int .u64 (wh:Int),.int .i64 (tn:Int)] 48,.n 3 #[.bool g,.string s,.int .i64 x] 25,.v 4 (.int .u64 0),.v 5 (.int .i64 0),.v 6 (.bool false)]) (fun p1=>[(2,.pointer (some ⟨(p1 0).N,0,none⟩)),(3,.pointer (some ⟨(p1 1).N,0,none⟩)),(4,.int .u64 0),(5,.int .i64 0),(6,.bool false)]) (by kernel_rfl) (fun _ _=>by kernel_rfl) (fun _=>by kernel_rfl) (fun _=>by kernel_rfl) (fun p1=>?_) (fun p1 W1 T hF hK=>?_)
 ·iterate 2 refine ok_n (fun _=>by kernel_rfl) ?_
  iterate 3 refine ok_v (by kernel_rfl) ?_
  exact ok_nil
 replace hS:=SymF.fb hS hF [1000,1001] [⟨(p1 0).N,#[.int .u64 (wh:Int),.int .i64 (tn:Int)],48,true⟩,⟨(p1 1).N,#[.bool g,.string s,.int .i64 x],25,true⟩] (by kernel_rfl) (by kernel_rfl)
 replace hG:=hF.gx
 clear hF
 have z1:=hS.fr.size
 refine wp_seq ?_
 refine wp_symQ hS hG hK (fun p2=>[.l 7 (.agg #[.bool g,.string s,.int .i64 x]) 1 0,.c (some 8) (cV (.int .i64 0)),.v 9 (.bool false),.v 10 (.bool false),.v 11 (.pointer (some ⟨(p1 1).N,2,none⟩)),.l 12 (.int .i64 x) 1 2,.v 13 (.pointer (some ⟨(p1 0).N,1,none⟩)),.l 14 (.int .i64 (tn:Int)) 0 1,.v 15 (.int .i64 (-(tn:Int))),.v 16 (.bool false),.v 17 (.bool false)]) (fun p2=>[(2,.pointer (some ⟨(p1 0).N,0,none⟩)),(3,.pointer (some ⟨(p1 1).N,0,none⟩)),(4,.int .u64 0),(5,.int .i64 0),(6,.bool false),(17,.bool false)]) (by kernel_rfl) (fun _ _=>by kernel_rfl) (fun _=>by kernel_rfl) (fun _=>by kernel_rfl) (fun p2=>?_) (fun p2 W2 T hF hK=>?_)
 ·refine ok_L (by kernel_rfl) (by kernel_rfl) (by kernel_rfl) ?_
  refine ok_c (fun W cx=>as_v (unhide HC _)) (by kernel_rfl) ?_
  iterate 3 refine ok_v (by kernel_rfl) ?_
  refine ok_L (by kernel_rfl) (by kernel_rfl) (by kernel_rfl) ?_
  refine ok_v (by kernel_rfl) ?_
  refine ok_L (by kernel_rfl) (by kernel_rfl) (by kernel_rfl) ?_
  refine ok_vi ((wr64 (x:=0 - (tn:Int)) (by omega) (by omega)).trans (by omega)) (by kernel_rfl) ?_
  refine ok_vb (decide_eq_false (show ¬ x < -(tn:Int) by omega)) (by kernel_rfl) ?_
  refine ok_v (by kernel_rfl) ?_
  exact ok_nil
 replace hS:=SymF.fb hS hF [0,1] [⟨(p1 0).N,#[.int .u64 (wh:Int),.int .i64 (tn:Int)],48,true⟩,⟨(p1 1).N,#[.bool g,.string s,.int .i64 x],25,true⟩] (by kernel_rfl) (by kernel_rfl)
 replace hG:=hF.gx
 clear hF
 have z2:=hS.fr.size
 refine wp_cond_false (hK.ev 17 (by kernel_rfl) _ (by kernel_rfl)) ?_
 refine wp_skip ?_
 refine then_n ?_
 refine wp_symQ hS hG hK (fun p3=>[.v 19 (.pointer (some ⟨(p1 1).N,1,none⟩)),.l 20 (.string s) 1 1,.c (some 21) (cV (.tuple #[.int .u64 (n:Int),.bool true])),.v 18 (.tuple #[.int .u64 (n:Int),.bool true]),.v 22 (.int .u64 (n:Int)),.v 23 (.bool true),.v 4 (.int .u64 (n:Int)),.v 6 (.bool true)]) (fun p3=>[(2,.pointer (some ⟨(p1 0).N,0,none⟩)),(3,.pointer (some ⟨(p1 1).N,0,none⟩)),(4,.int .u64 (n:Int)),(5,.int .i64 0),(6,.bool true),(17,.bool false)]) (by kernel_rfl) (fun _ _=>by kernel_rfl) (fun _=>by kernel_rfl) (fun _=>by kernel_rfl) (fun p3=>?_) (fun p3 W3 T hF hK=>?_)
 ·refine ok_v (by kernel_rfl) ?_
  refine ok_L (by kernel_rfl) (by kernel_rfl) (by kernel_rfl) ?_
  refine ok_c (fun W cx=>as_v (unhide HN _)) (by kernel_rfl) ?_
  iterate 5 refine ok_v (by kernel_rfl) ?_
  exact ok_nil
 replace hS:=SymF.fb hS hF [0,1] [⟨(p1 0).N,#[.int .u64 (wh:Int),.int .i64 (tn:Int)],48,true⟩,⟨(p1 1).N,#[.bool g,.string s,.int .i64 x],25,true⟩] (by kernel_rfl) (by kernel_rfl)
 replace hG:=hF.gx
 clear hF
 have z3:=hS.fr.size
 refine wp_seq ?_
 refine wp_symQ hS hG hK (fun p4=>[.v 24 (.bool true),.v 25 (.bool false)]) (fun p4=>[(2,.pointer (some ⟨(p1 0).N,0,none⟩)),(3,.pointer (some ⟨(p1 1).N,0,none⟩)),(4,.int .u64 (n:Int)),(5,.int .i64 0),(6,.bool true),(17,.bool false),(25,.bool false)]) (by kernel_rfl) (fun _ _=>by kernel_rfl) (fun _=>by kernel_rfl) (fun _=>by kernel_rfl) (fun p4=>?_) (fun p4 W4 T hF hK=>?_)
 ·iterate 2 refine ok_v (by kernel_rfl) ?_
  exact ok_nil
 replace hS:=SymF.fb hS hF [0,1] [⟨(p1 0).N,#[.int .u64 (wh:Int),.int .i64 (tn:Int)],48,true⟩,⟨(p1 1).N,#[.bool g,.string s,.int .i64 x],25,true⟩] (by kernel_rfl) (by kernel_rfl)
 replace hG:=hF.gx
 clear hF
 have z4:=hS.fr.size
 refine wp_cond_false (hK.ev 25 (by kernel_rfl) _ (by kernel_rfl)) ?_
 refine wp_skip ?_
 refine then_n ?_
 refine wp_symQ hS hG hK (fun p5=>[.v 26 (.pointer (some ⟨(p1 1).N,2,none⟩)),.l 27 (.int .i64 x) 1 2,.v 28 (.pointer (some ⟨(p1 0).N,1,none⟩)),.l 29 (.int .i64 (tn:Int)) 0 1,.v 30 (.int .i64 x),.v 5 (.int .i64 x)]) (fun p5=>[(2,.pointer (some ⟨(p1 0).N,0,none⟩)),(3,.pointer (some ⟨(p1 1).N,0,none⟩)),(4,.int .u64 (n:Int)),(5,.int .i64 x),(6,.bool true),(17,.bool false),(25,.bool false)]) (by kernel_rfl) (fun _ _=>by kernel_rfl) (fun _=>by kernel_rfl) (fun _=>by kernel_rfl) (fun p5=>?_) (fun p5 W5 T hF hK=>?_)
 ·refine ok_v (by kernel_rfl) ?_
  refine ok_L (by kernel_rfl) (by kernel_rfl) (by kernel_rfl) ?_
  refine ok_v (by kernel_rfl) ?_
  refine ok_L (by kernel_rfl) (by kernel_rfl) (by kernel_rfl) ?_
  refine ok_vi ((show (if (tn:Int) < x then (tn:Int) else x) = x by split <;> omega)) (by kernel_rfl) ?_
  refine ok_v (by kernel_rfl) ?_
  exact ok_nil
 replace hS:=SymF.fb hS hF [0,1] [⟨(p1 0).N,#[.int .u64 (wh:Int),.int .i64 (tn:Int)],48,true⟩,⟨(p1 1).N,#[.bool g,.string s,.int .i64 x],25,true⟩] (by kernel_rfl) (by kernel_rfl)
 replace hG:=hF.gx
 clear hF
 have z5:=hS.fr.size
 refine wp_symQ hS hG hK (fun p6=>[.l 32 (.agg #[.int .u64 (wh:Int),.int .i64 (tn:Int)]) 0 0,.v 33 (.int .u64 (n:Int)),.v 34 (.pointer (some ⟨(p1 1).N,2,none⟩)),.l 35 (.int .i64 x) 1 2,.v 36 (.int .i64 x),.v 37 (.int .i64 0),.c (some 38) (cV (.tuple #[.int .u64 (m:Int),.bool b])),.v 31 (.tuple #[.int .u64 (m:Int),.bool b]),.v 39 (.int .u64 (m:Int)),.v 40 (.bool b),.v 4 (.int .u64 (m:Int)),.v 6 (.bool b)]) (fun p6=>[(4,.int .u64 (m:Int)),(5,.int .i64 x),(6,.bool b),(17,.bool false),(25,.bool false)]) (by kernel_rfl) (fun _ _=>by kernel_rfl) (fun _=>by kernel_rfl) (fun _=>by kernel_rfl) (fun p6=>?_) (fun p6 W6 T hF hK=>?_)
 ·refine ok_L (by kernel_rfl) (by kernel_rfl) (by kernel_rfl) ?_
  iterate 2 refine ok_v (by kernel_rfl) ?_
  refine ok_L (by kernel_rfl) (by kernel_rfl) (by kernel_rfl) ?_
  refine ok_v (by kernel_rfl) ?_
  refine ok_vi ((wr64 (x:=x - x) (by omega) (by omega)).trans (by omega)) (by kernel_rfl) ?_
  refine ok_c (fun W cx=>as_v (unhide HR _)) (by kernel_rfl) ?_
  iterate 5 refine ok_v (by kernel_rfl) ?_
  exact ok_nil
 replace hS:=SymF.fb hS hF [] [] (by kernel_rfl) (by kernel_rfl)
 replace hG:=hF.gx
 clear hF
 have z6:=hS.fr.size
 refine wp_symQ hS hG hK (fun p7=>[.v 41 (.int .u64 (m:Int)),.v 42 (.int .i64 x),.v 43 (.bool b),.v 4 (.int .u64 (m:Int)),.v 5 (.int .i64 x),.v 6 (.bool b)]) (fun p7=>[(4,.int .u64 (m:Int)),(5,.int .i64 x),(6,.bool b),(17,.bool false),(25,.bool false)]) (by kernel_rfl) (fun _ _=>by kernel_rfl) (fun _=>by kernel_rfl) (fun _=>by kernel_rfl) (fun p7=>?_) (fun p7 W7 T hF hK=>?_)
 ·iterate 6 refine ok_v (by kernel_rfl) ?_
  exact ok_nil
 replace hS:=SymF.fb hS hF [] [] (by kernel_rfl) (by kernel_rfl)
 replace hG:=hF.gx
 clear hF
 have z7:=hS.fr.size
 refine wp_ret ?_
 exact sym_end hS hK (.tuple #[.int .u64 (m:Int),.int .i64 x,.bool b]) [] [] (by kernel_rfl) (by kernel_rfl) ⟨rfl,hS.fr⟩
theorem qnst64_qt (w:World) (s:ByteArray) (x:Int) (n m p z:Nat) (hm:0 < m∧m≤22) (HF:Hid (∀ W:World,Calls Tryd.prog 21 #[.agg #[.int .u64 9007199254740992,.int .i64 22],.agg #[.bool true,.string s,.int .i64 x]] W fun e W'=>e = .returned (.tuple #[.int .u64 (n:Int),.int .i64 (-(m:Int)),.bool true])∧Below W.heap.size W W')) (HP:Hid (∀ W:World,Calls Tryd.prog 29 #[.int .i64 (m:Int)] W fun e W'=>e = .returned (.float .f64 p)∧Below W.heap.size W W')) (hz:FloatKind.f64.format.div (floatOfInt .f64 (n:Int)) p = some z) :
  Calls Tryd.prog 17 #[.agg #[.bool true,.string s,.int .i64 x],.agg #[.int .u64 9007199254740992,.int .i64 22]] w fun en w'=>en = .returned (.tuple #[.float .f64 (Op.negFloat .f64 z),.bool true])∧Below w.heap.size w w':=by
 refine calls_sym Tryd.func17 rfl (by kernel_rfl) fun T hK=>?_
 replace hK:Kn T _ [(0,.agg #[.bool true,.string s,.int .i64 x]),(1,.agg #[.int .u64 9007199254740992,.int .i64 22])]:=hK
 have hS:=Fb.begin w
 have hG:GsAt [] w:=trivial
 refine wp_symQ hS hG hK (fun p1=>[.n 2 #[.bool true,.string s,.int .i64 x] 25,.n 3 #[.int .u64 9007199254740992,.int .i64 22] 48,.v 4 (.float FloatKind.f64 0),.v 5 (.bool false)]) (fun p1=>[(2,.pointer (some ⟨(p1 0).N,0,none⟩)),(3,.pointer (some ⟨(p1 1).N,0,none⟩)),(4,.float FloatKind.f64 0),(5,.bool false)]) (by kernel_rfl) (fun _ _=>by kernel_rfl) (fun _=>by kernel_rfl) (fun _=>by kernel_rfl) (fun p1=>?_) (fun p1 W1 T hF hK=>?_)
 ·iterate 2 refine ok_n (fun _=>by kernel_rfl) ?_
  iterate 2 refine ok_v (by kernel_rfl) ?_
  exact ok_nil
 replace hS:=SymF.fb hS hF [1000,1001] [⟨(p1 0).N,#[.bool true,.string s,.int .i64 x],25,true⟩,⟨(p1 1).N,#[.int .u64 9007199254740992,.int .i64 22],48,true⟩] (by kernel_rfl) (by kernel_rfl)
 replace hG:=hF.gx
 clear hF
 have z1:=hS.fr.size
 refine wp_symQ hS hG hK (fun p2=>[.l 11 (.agg #[.int .u64 9007199254740992,.int .i64 22]) 1 0,.l 12 (.agg #[.bool true,.string s,.int .i64 x]) 0 0,.c (some 13) (cV (.tuple #[.int .u64 (n:Int),.int .i64 (-(m:Int)),.bool true])),.v 10 (.tuple #[.int .u64 (n:Int),.int .i64 (-(m:Int)),.bool true]),.v 14 (.int .u64 (n:Int)),.v 15 (.int .i64 (-(m:Int))),.v 16 (.bool true),.v 6 (.int .u64 (n:Int)),.v 7 (.int .i64 (-(m:Int))),.v 8 (.bool true)]) (fun p2=>[(2,.pointer (some ⟨(p1 0).N,0,none⟩)),(4,.float FloatKind.f64 0),(5,.bool false),(6,.int .u64 (n:Int)),(7,.int .i64 (-(m:Int))),(8,.bool true)]) (by kernel_rfl) (fun _ _=>by kernel_rfl) (fun _=>by kernel_rfl) (fun _=>by kernel_rfl) (fun p2=>?_) (fun p2 W2 T hF hK=>?_)
 ·iterate 2 refine ok_L (by kernel_rfl) (by kernel_rfl) (by kernel_rfl) ?_
  refine ok_c (fun W cx=>as_v (unhide HF _)) (by kernel_rfl) ?_
  iterate 7 refine ok_v (by kernel_rfl) ?_
  exact ok_nil
 replace hS:=SymF.fb hS hF [0] [⟨(p1 0).N,#[.bool true,.string s,.int .i64 x],25,true⟩] (by kernel_rfl) (by kernel_rfl)
 replace hG:=hF.gx
 clear hF
 have z2:=hS.fr.size
 refine wp_seq ?_
 refine wp_symQ hS hG hK (fun p3=>[.v 17 (.bool true),.v 18 (.bool false)]) (fun p3=>[(2,.pointer (some ⟨(p1 0).N,0,none⟩)),(4,.float FloatKind.f64 0),(5,.bool false),(6,.int .u64 (n:Int)),(7,.int .i64 (-(m:Int))),(18,.bool false)]) (by kernel_rfl) (fun _ _=>by kernel_rfl) (fun _=>by kernel_rfl) (fun _=>by kernel_rfl) (fun p3=>?_) (fun p3 W3 T hF hK=>?_)
 ·iterate 2 refine ok_v (by kernel_rfl) ?_
  exact ok_nil
 replace hS:=SymF.fb hS hF [0] [⟨(p1 0).N,#[.bool true,.string s,.int .i64 x],25,true⟩] (by kernel_rfl) (by kernel_rfl)
 replace hG:=hF.gx
 clear hF
 have z3:=hS.fr.size
 refine wp_cond_false (hK.ev 18 (by kernel_rfl) _ (by kernel_rfl)) ?_
 refine wp_skip ?_
 refine then_n ?_
 refine wp_symQ hS hG hK (fun p4=>[.v 19 (.int .u64 (n:Int)),.c (some 20) (cV (.float .f64 (floatOfInt .f64 (n:Int)))),.v 9 (.float .f64 (floatOfInt .f64 (n:Int)))]) (fun p4=>[(2,.pointer (some ⟨(p1 0).N,0,none⟩)),(4,.float FloatKind.f64 0),(5,.bool false),(7,.int .i64 (-(m:Int))),(9,.float .f64 (floatOfInt .f64 (n:Int))),(18,.bool false)]) (by kernel_rfl) (fun _ _=>by kernel_rfl) (fun _=>by kernel_rfl) (fun _=>by kernel_rfl) (fun p4=>?_) (fun p4 W4 T hF hK=>?_)
 ·refine ok_v (by kernel_rfl) ?_
  refine ok_c (fun W cx=>as_v (qnear64 _ n)) (by kernel_rfl) ?_
  refine ok_v (by kernel_rfl) ?_
  exact ok_nil
 replace hS:=SymF.fb hS hF [0] [⟨(p1 0).N,#[.bool true,.string s,.int .i64 x],25,true⟩] (by kernel_rfl) (by kernel_rfl)
 replace hG:=hF.gx
 clear hF
 have z4:=hS.fr.size
 refine wp_seq ?_
 refine wp_symQ hS hG hK (fun p5=>[.v 21 (.int .i64 (-(m:Int))),.v 22 (.bool true)]) (fun p5=>[(2,.pointer (some ⟨(p1 0).N,0,none⟩)),(4,.float FloatKind.f64 0),(5,.bool false),(7,.int .i64 (-(m:Int))),(9,.float .f64 (floatOfInt .f64 (n:Int))),(18,.bool false),(22,.bool true)]) (by kernel_rfl) (fun _ _=>by kernel_rfl) (fun _=>by kernel_rfl) (fun _=>by kernel_rfl) (fun p5=>?_) (fun p5 W5 T hF hK=>?_)
 ·refine ok_v (by kernel_rfl) ?_
  refine ok_vb (decide_eq_true (show -(m:Int) < 0 by omega)) (by kernel_rfl) ?_
  exact ok_nil
 replace hS:=SymF.fb hS hF [0] [⟨(p1 0).N,#[.bool true,.string s,.int .i64 x],25,true⟩] (by kernel_rfl) (by kernel_rfl)
 replace hG:=hF.gx
 clear hF
 have z5:=hS.fr.size
 refine wp_cond_true (hK.ev 22 (by kernel_rfl) _ (by kernel_rfl)) ?_
 refine wp_symG hS hG hK (fun p6=>[.v 23 (.float .f64 (floatOfInt .f64 (n:Int))),.v 24 (.int .i64 (-(m:Int))),.v 25 (.int .i64 (m:Int)),.c (some 26) (cV (.float .f64 p)),.v 27 (.float .f64 z),.v 9 (.float .f64 z)]) (fun p6=>[(2,.pointer (some ⟨(p1 0).N,0,none⟩)),(4,.float FloatKind.f64 0),(5,.bool false),(7,.int .i64 (-(m:Int))),(9,.float .f64 z),(18,.bool false),(22,.bool true)]) (by kernel_rfl) (fun _ _=>by kernel_rfl) (fun _=>by kernel_rfl) (fun _=>by kernel_rfl) (fun p6=>?_) (fun p6 W6 T hF hK=>?_)
 ·iterate 2 refine ok_v (by kernel_rfl) ?_
  refine ok_vi ((wr64 (x:=0 - (-(m:Int))) (by omega) (by omega)).trans (by omega)) (by kernel_rfl) ?_
  refine ok_c (fun W cx=>as_v (unhide HP _)) (by kernel_rfl) ?_
  refine ok_vr (script_quo (t:=30) hz) (by kernel_rfl) ?_
  refine ok_v (by kernel_rfl) ?_
  exact ok_nil
 replace hS:=SymF.fb hS hF [0] [⟨(p1 0).N,#[.bool true,.string s,.int .i64 x],25,true⟩] (by kernel_rfl) (by kernel_rfl)
 replace hG:=hF.gx
 clear hF
 have z6:=hS.fr.size
 refine then_n ?_
 refine wp_seq ?_
 refine wp_symQ hS hG hK (fun p7=>[.v 32 (.pointer (some ⟨(p1 0).N,0,none⟩)),.l 33 (.bool true) 0 0]) (fun p7=>[(4,.float FloatKind.f64 0),(5,.bool false),(7,.int .i64 (-(m:Int))),(9,.float .f64 z),(18,.bool false),(22,.bool true),(33,.bool true)]) (by kernel_rfl) (fun _ _=>by kernel_rfl) (fun _=>by kernel_rfl) (fun _=>by kernel_rfl) (fun p7=>?_) (fun p7 W7 T hF hK=>?_)
 ·refine ok_v (by kernel_rfl) ?_
  refine ok_L (by kernel_rfl) (by kernel_rfl) (by kernel_rfl) ?_
  exact ok_nil
 replace hS:=SymF.fb hS hF [] [] (by kernel_rfl) (by kernel_rfl)
 replace hG:=hF.gx
 clear hF
 have z7:=hS.fr.size
 refine wp_cond_true (hK.ev 33 (by kernel_rfl) _ (by kernel_rfl)) ?_
 refine wp_symG hS hG hK (fun p8=>[.v 34 (.float .f64 z),.v 35 (.float .f64 (Op.negFloat .f64 z)),.v 9 (.float .f64 (Op.negFloat .f64 z))]) (fun p8=>[(4,.float FloatKind.f64 0),(5,.bool false),(7,.int .i64 (-(m:Int))),(9,.float .f64 (Op.negFloat .f64 z)),(18,.bool false),(22,.bool true),(33,.bool true)]) (by kernel_rfl) (fun _ _=>by kernel_rfl) (fun _=>by kernel_rfl) (fun _=>by kernel_rfl) (fun p8=>?_) (fun p8 W8 T hF hK=>?_)
 ·iterate 3 refine ok_v (by kernel_rfl) ?_
  exact ok_nil
 replace hS:=SymF.fb hS hF [] [] (by kernel_rfl) (by kernel_rfl)
 replace hG:=hF.gx
 clear hF
 have z8:=hS.fr.size
 refine then_n ?_
 refine wp_symQ hS hG hK (fun p9=>[.v 36 (.float .f64 (Op.negFloat .f64 z)),.v 4 (.float .f64 (Op.negFloat .f64 z)),.v 5 (.bool true)]) (fun p9=>[(4,.float .f64 (Op.negFloat .f64 z)),(5,.bool true),(7,.int .i64 (-(m:Int))),(9,.float .f64 (Op.negFloat .f64 z)),(18,.bool false),(22,.bool true),(33,.bool true)]) (by kernel_rfl) (fun _ _=>by kernel_rfl) (fun _=>by kernel_rfl) (fun _=>by kernel_rfl) (fun p9=>?_) (fun p9 W9 T hF hK=>?_)
 ·iterate 3 refine ok_v (by kernel_rfl) ?_
  exact ok_nil
 replace hS:=SymF.fb hS hF [] [] (by kernel_rfl) (by kernel_rfl)
 replace hG:=hF.gx
 clear hF
 have z9:=hS.fr.size
 refine wp_ret ?_
 exact sym_end hS hK (.tuple #[.float .f64 (Op.negFloat .f64 z),.bool true]) [] [] (by kernel_rfl) (by kernel_rfl) ⟨rfl,hS.fr⟩
theorem qnst64_qf (w:World) (s:ByteArray) (x:Int) (n m p z:Nat) (hm:0 < m∧m≤22) (HF:Hid (∀ W:World,Calls Tryd.prog 21 #[.agg #[.int .u64 9007199254740992,.int .i64 22],.agg #[.bool false,.string s,.int .i64 x]] W fun e W'=>e = .returned (.tuple #[.int .u64 (n:Int),.int .i64 (-(m:Int)),.bool true])∧Below W.heap.size W W')) (HP:Hid (∀ W:World,Calls Tryd.prog 29 #[.int .i64 (m:Int)] W fun e W'=>e = .returned (.float .f64 p)∧Below W.heap.size W W')) (hz:FloatKind.f64.format.div (floatOfInt .f64 (n:Int)) p = some z) :
  Calls Tryd.prog 17 #[.agg #[.bool false,.string s,.int .i64 x],.agg #[.int .u64 9007199254740992,.int .i64 22]] w fun en w'=>en = .returned (.tuple #[.float .f64 z,.bool true])∧Below w.heap.size w w':=by
 refine calls_sym Tryd.func17 rfl (by kernel_rfl) fun T hK=>?_
 replace hK:Kn T _ [(0,.agg #[.bool false,.string s,.int .i64 x]),(1,.agg #[.int .u64 9007199254740992,.int .i64 22])]:=hK
 have hS:=Fb.begin w
 have hG:GsAt [] w:=trivial
 refine wp_symQ hS hG hK (fun p1=>[.n 2 #[.bool false,.string s,.int .i64 x] 25,.n 3 #[.int .u64 9007199254740992,.int .i64 22] 48,.v 4 (.float FloatKind.f64 0),.v 5 (.bool false)]) (fun p1=>[(2,.pointer (some ⟨(p1 0).N,0,none⟩)),(3,.pointer (some ⟨(p1 1).N,0,none⟩)),(4,.float FloatKind.f64 0),(5,.bool false)]) (by kernel_rfl) (fun _ _=>by kernel_rfl) (fun _=>by kernel_rfl) (fun _=>by kernel_rfl) (fun p1=>?_) (fun p1 W1 T hF hK=>?_)
 ·iterate 2 refine ok_n (fun _=>by kernel_rfl) ?_
  iterate 2 refine ok_v (by kernel_rfl) ?_
  exact ok_nil
 replace hS:=SymF.fb hS hF [1000,1001] [⟨(p1 0).N,#[.bool false,.string s,.int .i64 x],25,true⟩,⟨(p1 1).N,#[.int .u64 9007199254740992,.int .i64 22],48,true⟩] (by kernel_rfl) (by kernel_rfl)
 replace hG:=hF.gx
 clear hF
 have z1:=hS.fr.size
 refine wp_symQ hS hG hK (fun p2=>[.l 11 (.agg #[.int .u64 9007199254740992,.int .i64 22]) 1 0,.l 12 (.agg #[.bool false,.string s,.int .i64 x]) 0 0,.c (some 13) (cV (.tuple #[.int .u64 (n:Int),.int .i64 (-(m:Int)),.bool true])),.v 10 (.tuple #[.int .u64 (n:Int),.int .i64 (-(m:Int)),.bool true]),.v 14 (.int .u64 (n:Int)),.v 15 (.int .i64 (-(m:Int))),.v 16 (.bool true),.v 6 (.int .u64 (n:Int)),.v 7 (.int .i64 (-(m:Int))),.v 8 (.bool true)]) (fun p2=>[(2,.pointer (some ⟨(p1 0).N,0,none⟩)),(4,.float FloatKind.f64 0),(5,.bool false),(6,.int .u64 (n:Int)),(7,.int .i64 (-(m:Int))),(8,.bool true)]) (by kernel_rfl) (fun _ _=>by kernel_rfl) (fun _=>by kernel_rfl) (fun _=>by kernel_rfl) (fun p2=>?_) (fun p2 W2 T hF hK=>?_)
 ·iterate 2 refine ok_L (by kernel_rfl) (by kernel_rfl) (by kernel_rfl) ?_
  refine ok_c (fun W cx=>as_v (unhide HF _)) (by kernel_rfl) ?_
  iterate 7 refine ok_v (by kernel_rfl) ?_
  exact ok_nil
 replace hS:=SymF.fb hS hF [0] [⟨(p1 0).N,#[.bool false,.string s,.int .i64 x],25,true⟩] (by kernel_rfl) (by kernel_rfl)
 replace hG:=hF.gx
 clear hF
 have z2:=hS.fr.size
 refine wp_seq ?_
 refine wp_symQ hS hG hK (fun p3=>[.v 17 (.bool true),.v 18 (.bool false)]) (fun p3=>[(2,.pointer (some ⟨(p1 0).N,0,none⟩)),(4,.float FloatKind.f64 0),(5,.bool false),(6,.int .u64 (n:Int)),(7,.int .i64 (-(m:Int))),(18,.bool false)]) (by kernel_rfl) (fun _ _=>by kernel_rfl) (fun _=>by kernel_rfl) (fun _=>by kernel_rfl) (fun p3=>?_) (fun p3 W3 T hF hK=>?_)
 ·iterate 2 refine ok_v (by kernel_rfl) ?_
  exact ok_nil
 replace hS:=SymF.fb hS hF [0] [⟨(p1 0).N,#[.bool false,.string s,.int .i64 x],25,true⟩] (by kernel_rfl) (by kernel_rfl)
 replace hG:=hF.gx
 clear hF
 have z3:=hS.fr.size
 refine wp_cond_false (hK.ev 18 (by kernel_rfl) _ (by kernel_rfl)) ?_
 refine wp_skip ?_
 refine then_n ?_
 refine wp_symQ hS hG hK (fun p4=>[.v 19 (.int .u64 (n:Int)),.c (some 20) (cV (.float .f64 (floatOfInt .f64 (n:Int)))),.v 9 (.float .f64 (floatOfInt .f64 (n:Int)))]) (fun p4=>[(2,.pointer (some ⟨(p1 0).N,0,none⟩)),(4,.float FloatKind.f64 0),(5,.bool false),(7,.int .i64 (-(m:Int))),(9,.float .f64 (floatOfInt .f64 (n:Int))),(18,.bool false)]) (by kernel_rfl) (fun _ _=>by kernel_rfl) (fun _=>by kernel_rfl) (fun _=>by kernel_rfl) (fun p4=>?_) (fun p4 W4 T hF hK=>?_)
 ·refine ok_v (by kernel_rfl) ?_
  refine ok_c (fun W cx=>as_v (qnear64 _ n)) (by kernel_rfl) ?_
  refine ok_v (by kernel_rfl) ?_
  exact ok_nil
 replace hS:=SymF.fb hS hF [0] [⟨(p1 0).N,#[.bool false,.string s,.int .i64 x],25,true⟩] (by kernel_rfl) (by kernel_rfl)
 replace hG:=hF.gx
 clear hF
 have z4:=hS.fr.size
 refine wp_seq ?_
 refine wp_symQ hS hG hK (fun p5=>[.v 21 (.int .i64 (-(m:Int))),.v 22 (.bool true)]) (fun p5=>[(2,.pointer (some ⟨(p1 0).N,0,none⟩)),(4,.float FloatKind.f64 0),(5,.bool false),(7,.int .i64 (-(m:Int))),(9,.float .f64 (floatOfInt .f64 (n:Int))),(18,.bool false),(22,.bool true)]) (by kernel_rfl) (fun _ _=>by kernel_rfl) (fun _=>by kernel_rfl) (fun _=>by kernel_rfl) (fun p5=>?_) (fun p5 W5 T hF hK=>?_)
 ·refine ok_v (by kernel_rfl) ?_
  refine ok_vb (decide_eq_true (show -(m:Int) < 0 by omega)) (by kernel_rfl) ?_
  exact ok_nil
 replace hS:=SymF.fb hS hF [0] [⟨(p1 0).N,#[.bool false,.string s,.int .i64 x],25,true⟩] (by kernel_rfl) (by kernel_rfl)
 replace hG:=hF.gx
 clear hF
 have z5:=hS.fr.size
 refine wp_cond_true (hK.ev 22 (by kernel_rfl) _ (by kernel_rfl)) ?_
 refine wp_symG hS hG hK (fun p6=>[.v 23 (.float .f64 (floatOfInt .f64 (n:Int))),.v 24 (.int .i64 (-(m:Int))),.v 25 (.int .i64 (m:Int)),.c (some 26) (cV (.float .f64 p)),.v 27 (.float .f64 z),.v 9 (.float .f64 z)]) (fun p6=>[(2,.pointer (some ⟨(p1 0).N,0,none⟩)),(4,.float FloatKind.f64 0),(5,.bool false),(7,.int .i64 (-(m:Int))),(9,.float .f64 z),(18,.bool false),(22,.bool true)]) (by kernel_rfl) (fun _ _=>by kernel_rfl) (fun _=>by kernel_rfl) (fun _=>by kernel_rfl) (fun p6=>?_) (fun p6 W6 T hF hK=>?_)
 ·iterate 2 refine ok_v (by kernel_rfl) ?_
  refine ok_vi ((wr64 (x:=0 - (-(m:Int))) (by omega) (by omega)).trans (by omega)) (by kernel_rfl) ?_
  refine ok_c (fun W cx=>as_v (unhide HP _)) (by kernel_rfl) ?_
  refine ok_vr (script_quo (t:=30) hz) (by kernel_rfl) ?_
  refine ok_v (by kernel_rfl) ?_
  exact ok_nil
 replace hS:=SymF.fb hS hF [0] [⟨(p1 0).N,#[.bool false,.string s,.int .i64 x],25,true⟩] (by kernel_rfl) (by kernel_rfl)
 replace hG:=hF.gx
 clear hF
 have z6:=hS.fr.size
 refine then_n ?_
 refine wp_seq ?_
 refine wp_symQ hS hG hK (fun p7=>[.v 32 (.pointer (some ⟨(p1 0).N,0,none⟩)),.l 33 (.bool false) 0 0]) (fun p7=>[(4,.float FloatKind.f64 0),(5,.bool false),(7,.int .i64 (-(m:Int))),(9,.float .f64 z),(18,.bool false),(22,.bool true),(33,.bool false)]) (by kernel_rfl) (fun _ _=>by kernel_rfl) (fun _=>by kernel_rfl) (fun _=>by kernel_rfl) (fun p7=>?_) (fun p7 W7 T hF hK=>?_)
 ·refine ok_v (by kernel_rfl) ?_
  refine ok_L (by kernel_rfl) (by kernel_rfl) (by kernel_rfl) ?_
  exact ok_nil
 replace hS:=SymF.fb hS hF [] [] (by kernel_rfl) (by kernel_rfl)
 replace hG:=hF.gx
 clear hF
 have z7:=hS.fr.size
 refine wp_cond_false (hK.ev 33 (by kernel_rfl) _ (by kernel_rfl)) ?_
 refine wp_skip ?_
 refine then_n ?_
 refine wp_symQ hS hG hK (fun p8=>[.v 36 (.float .f64 z),.v 4 (.float .f64 z),.v 5 (.bool true)]) (fun p8=>[(4,.float .f64 z),(5,.bool true),(7,.int .i64 (-(m:Int))),(9,.float .f64 z),(18,.bool false),(22,.bool true),(33,.bool false)]) (by kernel_rfl) (fun _ _=>by kernel_rfl) (fun _=>by kernel_rfl) (fun _=>by kernel_rfl) (fun p8=>?_) (fun p8 W8 T hF hK=>?_)
 ·iterate 3 refine ok_v (by kernel_rfl) ?_
  exact ok_nil
 replace hS:=SymF.fb hS hF [] [] (by kernel_rfl) (by kernel_rfl)
 replace hG:=hF.gx
 clear hF
 have z8:=hS.fr.size
 refine wp_ret ?_
 exact sym_end hS hK (.tuple #[.float .f64 z,.bool true]) [] [] (by kernel_rfl) (by kernel_rfl) ⟨rfl,hS.fr⟩
theorem qnst64_pt (w:World) (s:ByteArray) (x:Int) (n m p z:Nat) (hm:m≤22) (HF:Hid (∀ W:World,Calls Tryd.prog 21 #[.agg #[.int .u64 9007199254740992,.int .i64 22],.agg #[.bool true,.string s,.int .i64 x]] W fun e W'=>e = .returned (.tuple #[.int .u64 (n:Int),.int .i64 (m:Int),.bool true])∧Below W.heap.size W W')) (HP:Hid (∀ W:World,Calls Tryd.prog 29 #[.int .i64 (m:Int)] W fun e W'=>e = .returned (.float .f64 p)∧Below W.heap.size W W')) (hz:FloatKind.f64.format.mul (floatOfInt .f64 (n:Int)) p = some z) :
  Calls Tryd.prog 17 #[.agg #[.bool true,.string s,.int .i64 x],.agg #[.int .u64 9007199254740992,.int .i64 22]] w fun en w'=>en = .returned (.tuple #[.float .f64 (Op.negFloat .f64 z),.bool true])∧Below w.heap.size w w':=by
 refine calls_sym Tryd.func17 rfl (by kernel_rfl) fun T hK=>?_
 replace hK:Kn T _ [(0,.agg #[.bool true,.string s,.int .i64 x]),(1,.agg #[.int .u64 9007199254740992,.int .i64 22])]:=hK
 have hS:=Fb.begin w
 have hG:GsAt [] w:=trivial
 refine wp_symQ hS hG hK (fun p1=>[.n 2 #[.bool true,.string s,.int .i64 x] 25,.n 3 #[.int .u64 9007199254740992,.int .i64 22] 48,.v 4 (.float FloatKind.f64 0),.v 5 (.bool false)]) (fun p1=>[(2,.pointer (some ⟨(p1 0).N,0,none⟩)),(3,.pointer (some ⟨(p1 1).N,0,none⟩)),(4,.float FloatKind.f64 0),(5,.bool false)]) (by kernel_rfl) (fun _ _=>by kernel_rfl) (fun _=>by kernel_rfl) (fun _=>by kernel_rfl) (fun p1=>?_) (fun p1 W1 T hF hK=>?_)
 ·iterate 2 refine ok_n (fun _=>by kernel_rfl) ?_
  iterate 2 refine ok_v (by kernel_rfl) ?_
  exact ok_nil
 replace hS:=SymF.fb hS hF [1000,1001] [⟨(p1 0).N,#[.bool true,.string s,.int .i64 x],25,true⟩,⟨(p1 1).N,#[.int .u64 9007199254740992,.int .i64 22],48,true⟩] (by kernel_rfl) (by kernel_rfl)
 replace hG:=hF.gx
 clear hF
 have z1:=hS.fr.size
 refine wp_symQ hS hG hK (fun p2=>[.l 11 (.agg #[.int .u64 9007199254740992,.int .i64 22]) 1 0,.l 12 (.agg #[.bool true,.string s,.int .i64 x]) 0 0,.c (some 13) (cV (.tuple #[.int .u64 (n:Int),.int .i64 (m:Int),.bool true])),.v 10 (.tuple #[.int .u64 (n:Int),.int .i64 (m:Int),.bool true]),.v 14 (.int .u64 (n:Int)),.v 15 (.int .i64 (m:Int)),.v 16 (.bool true),.v 6 (.int .u64 (n:Int)),.v 7 (.int .i64 (m:Int)),.v 8 (.bool true)]) (fun p2=>[(2,.pointer (some ⟨(p1 0).N,0,none⟩)),(4,.float FloatKind.f64 0),(5,.bool false),(6,.int .u64 (n:Int)),(7,.int .i64 (m:Int)),(8,.bool true)]) (by kernel_rfl) (fun _ _=>by kernel_rfl) (fun _=>by kernel_rfl) (fun _=>by kernel_rfl) (fun p2=>?_) (fun p2 W2 T hF hK=>?_)
 ·iterate 2 refine ok_L (by kernel_rfl) (by kernel_rfl) (by kernel_rfl) ?_
  refine ok_c (fun W cx=>as_v (unhide HF _)) (by kernel_rfl) ?_
  iterate 7 refine ok_v (by kernel_rfl) ?_
  exact ok_nil
 replace hS:=SymF.fb hS hF [0] [⟨(p1 0).N,#[.bool true,.string s,.int .i64 x],25,true⟩] (by kernel_rfl) (by kernel_rfl)
 replace hG:=hF.gx
 clear hF
 have z2:=hS.fr.size
 refine wp_seq ?_
 refine wp_symQ hS hG hK (fun p3=>[.v 17 (.bool true),.v 18 (.bool false)]) (fun p3=>[(2,.pointer (some ⟨(p1 0).N,0,none⟩)),(4,.float FloatKind.f64 0),(5,.bool false),(6,.int .u64 (n:Int)),(7,.int .i64 (m:Int)),(18,.bool false)]) (by kernel_rfl) (fun _ _=>by kernel_rfl) (fun _=>by kernel_rfl) (fun _=>by kernel_rfl) (fun p3=>?_) (fun p3 W3 T hF hK=>?_)
 ·iterate 2 refine ok_v (by kernel_rfl) ?_
  exact ok_nil
 replace hS:=SymF.fb hS hF [0] [⟨(p1 0).N,#[.bool true,.string s,.int .i64 x],25,true⟩] (by kernel_rfl) (by kernel_rfl)
 replace hG:=hF.gx
 clear hF
 have z3:=hS.fr.size
 refine wp_cond_false (hK.ev 18 (by kernel_rfl) _ (by kernel_rfl)) ?_
 refine wp_skip ?_
 refine then_n ?_
 refine wp_symQ hS hG hK (fun p4=>[.v 19 (.int .u64 (n:Int)),.c (some 20) (cV (.float .f64 (floatOfInt .f64 (n:Int)))),.v 9 (.float .f64 (floatOfInt .f64 (n:Int)))]) (fun p4=>[(2,.pointer (some ⟨(p1 0).N,0,none⟩)),(4,.float FloatKind.f64 0),(5,.bool false),(7,.int .i64 (m:Int)),(9,.float .f64 (floatOfInt .f64 (n:Int))),(18,.bool false)]) (by kernel_rfl) (fun _ _=>by kernel_rfl) (fun _=>by kernel_rfl) (fun _=>by kernel_rfl) (fun p4=>?_) (fun p4 W4 T hF hK=>?_)
 ·refine ok_v (by kernel_rfl) ?_
  refine ok_c (fun W cx=>as_v (qnear64 _ n)) (by kernel_rfl) ?_
  refine ok_v (by kernel_rfl) ?_
  exact ok_nil
 replace hS:=SymF.fb hS hF [0] [⟨(p1 0).N,#[.bool true,.string s,.int .i64 x],25,true⟩] (by kernel_rfl) (by kernel_rfl)
 replace hG:=hF.gx
 clear hF
 have z4:=hS.fr.size
 refine wp_seq ?_
 refine wp_symQ hS hG hK (fun p5=>[.v 21 (.int .i64 (m:Int)),.v 22 (.bool false)]) (fun p5=>[(2,.pointer (some ⟨(p1 0).N,0,none⟩)),(4,.float FloatKind.f64 0),(5,.bool false),(7,.int .i64 (m:Int)),(9,.float .f64 (floatOfInt .f64 (n:Int))),(18,.bool false),(22,.bool false)]) (by kernel_rfl) (fun _ _=>by kernel_rfl) (fun _=>by kernel_rfl) (fun _=>by kernel_rfl) (fun p5=>?_) (fun p5 W5 T hF hK=>?_)
 ·refine ok_v (by kernel_rfl) ?_
  refine ok_vb (decide_eq_false (show ¬ (m:Int) < 0 by omega)) (by kernel_rfl) ?_
  exact ok_nil
 replace hS:=SymF.fb hS hF [0] [⟨(p1 0).N,#[.bool true,.string s,.int .i64 x],25,true⟩] (by kernel_rfl) (by kernel_rfl)
 replace hG:=hF.gx
 clear hF
 have z5:=hS.fr.size
 refine wp_cond_false (hK.ev 22 (by kernel_rfl) _ (by kernel_rfl)) ?_
 refine wp_symG hS hG hK (fun p6=>[.v 28 (.float .f64 (floatOfInt .f64 (n:Int))),.v 29 (.int .i64 (m:Int)),.c (some 30) (cV (.float .f64 p)),.v 31 (.float .f64 z),.v 9 (.float .f64 z)]) (fun p6=>[(2,.pointer (some ⟨(p1 0).N,0,none⟩)),(4,.float FloatKind.f64 0),(5,.bool false),(7,.int .i64 (m:Int)),(9,.float .f64 z),(18,.bool false),(22,.bool false)]) (by kernel_rfl) (fun _ _=>by kernel_rfl) (fun _=>by kernel_rfl) (fun _=>by kernel_rfl) (fun p6=>?_) (fun p6 W6 T hF hK=>?_)
 ·iterate 2 refine ok_v (by kernel_rfl) ?_
  refine ok_c (fun W cx=>as_v (unhide HP _)) (by kernel_rfl) ?_
  refine ok_vr (script_mul (t:=30) hz) (by kernel_rfl) ?_
  refine ok_v (by kernel_rfl) ?_
  exact ok_nil
 replace hS:=SymF.fb hS hF [0] [⟨(p1 0).N,#[.bool true,.string s,.int .i64 x],25,true⟩] (by kernel_rfl) (by kernel_rfl)
 replace hG:=hF.gx
 clear hF
 have z6:=hS.fr.size
 refine then_n ?_
 refine wp_seq ?_
 refine wp_symQ hS hG hK (fun p7=>[.v 32 (.pointer (some ⟨(p1 0).N,0,none⟩)),.l 33 (.bool true) 0 0]) (fun p7=>[(4,.float FloatKind.f64 0),(5,.bool false),(7,.int .i64 (m:Int)),(9,.float .f64 z),(18,.bool false),(22,.bool false),(33,.bool true)]) (by kernel_rfl) (fun _ _=>by kernel_rfl) (fun _=>by kernel_rfl) (fun _=>by kernel_rfl) (fun p7=>?_) (fun p7 W7 T hF hK=>?_)
 ·refine ok_v (by kernel_rfl) ?_
  refine ok_L (by kernel_rfl) (by kernel_rfl) (by kernel_rfl) ?_
  exact ok_nil
 replace hS:=SymF.fb hS hF [] [] (by kernel_rfl) (by kernel_rfl)
 replace hG:=hF.gx
 clear hF
 have z7:=hS.fr.size
 refine wp_cond_true (hK.ev 33 (by kernel_rfl) _ (by kernel_rfl)) ?_
 refine wp_symG hS hG hK (fun p8=>[.v 34 (.float .f64 z),.v 35 (.float .f64 (Op.negFloat .f64 z)),.v 9 (.float .f64 (Op.negFloat .f64 z))]) (fun p8=>[(4,.float FloatKind.f64 0),(5,.bool false),(7,.int .i64 (m:Int)),(9,.float .f64 (Op.negFloat .f64 z)),(18,.bool false),(22,.bool false),(33,.bool true)]) (by kernel_rfl) (fun _ _=>by kernel_rfl) (fun _=>by kernel_rfl) (fun _=>by kernel_rfl) (fun p8=>?_) (fun p8 W8 T hF hK=>?_)
 ·iterate 3 refine ok_v (by kernel_rfl) ?_
  exact ok_nil
 replace hS:=SymF.fb hS hF [] [] (by kernel_rfl) (by kernel_rfl)
 replace hG:=hF.gx
 clear hF
 have z8:=hS.fr.size
 refine then_n ?_
 refine wp_symQ hS hG hK (fun p9=>[.v 36 (.float .f64 (Op.negFloat .f64 z)),.v 4 (.float .f64 (Op.negFloat .f64 z)),.v 5 (.bool true)]) (fun p9=>[(4,.float .f64 (Op.negFloat .f64 z)),(5,.bool true),(7,.int .i64 (m:Int)),(9,.float .f64 (Op.negFloat .f64 z)),(18,.bool false),(22,.bool false),(33,.bool true)]) (by kernel_rfl) (fun _ _=>by kernel_rfl) (fun _=>by kernel_rfl) (fun _=>by kernel_rfl) (fun p9=>?_) (fun p9 W9 T hF hK=>?_)
 ·iterate 3 refine ok_v (by kernel_rfl) ?_
  exact ok_nil
 replace hS:=SymF.fb hS hF [] [] (by kernel_rfl) (by kernel_rfl)
 replace hG:=hF.gx
 clear hF
 have z9:=hS.fr.size
 refine wp_ret ?_
 exact sym_end hS hK (.tuple #[.float .f64 (Op.negFloat .f64 z),.bool true]) [] [] (by kernel_rfl) (by kernel_rfl) ⟨rfl,hS.fr⟩
theorem qnst64_pf (w:World) (s:ByteArray) (x:Int) (n m p z:Nat) (hm:m≤22) (HF:Hid (∀ W:World,Calls Tryd.prog 21 #[.agg #[.int .u64 9007199254740992,.int .i64 22],.agg #[.bool false,.string s,.int .i64 x]] W fun e W'=>e = .returned (.tuple #[.int .u64 (n:Int),.int .i64 (m:Int),.bool true])∧Below W.heap.size W W')) (HP:Hid (∀ W:World,Calls Tryd.prog 29 #[.int .i64 (m:Int)] W fun e W'=>e = .returned (.float .f64 p)∧Below W.heap.size W W')) (hz:FloatKind.f64.format.mul (floatOfInt .f64 (n:Int)) p = some z) :
  Calls Tryd.prog 17 #[.agg #[.bool false,.string s,.int .i64 x],.agg #[.int .u64 9007199254740992,.int .i64 22]] w fun en w'=>en = .returned (.tuple #[.float .f64 z,.bool true])∧Below w.heap.size w w':=by
 refine calls_sym Tryd.func17 rfl (by kernel_rfl) fun T hK=>?_
 replace hK:Kn T _ [(0,.agg #[.bool false,.string s,.int .i64 x]),(1,.agg #[.int .u64 9007199254740992,.int .i64 22])]:=hK
 have hS:=Fb.begin w
 have hG:GsAt [] w:=trivial
 refine wp_symQ hS hG hK (fun p1=>[.n 2 #[.bool false,.string s,.int .i64 x] 25,.n 3 #[.int .u64 9007199254740992,.int .i64 22] 48,.v 4 (.float FloatKind.f64 0),.v 5 (.bool false)]) (fun p1=>[(2,.pointer (some ⟨(p1 0).N,0,none⟩)),(3,.pointer (some ⟨(p1 1).N,0,none⟩)),(4,.float FloatKind.f64 0),(5,.bool false)]) (by kernel_rfl) (fun _ _=>by kernel_rfl) (fun _=>by kernel_rfl) (fun _=>by kernel_rfl) (fun p1=>?_) (fun p1 W1 T hF hK=>?_)
 ·iterate 2 refine ok_n (fun _=>by kernel_rfl) ?_
  iterate 2 refine ok_v (by kernel_rfl) ?_
  exact ok_nil
 replace hS:=SymF.fb hS hF [1000,1001] [⟨(p1 0).N,#[.bool false,.string s,.int .i64 x],25,true⟩,⟨(p1 1).N,#[.int .u64 9007199254740992,.int .i64 22],48,true⟩] (by kernel_rfl) (by kernel_rfl)
 replace hG:=hF.gx
 clear hF
 have z1:=hS.fr.size
 refine wp_symQ hS hG hK (fun p2=>[.l 11 (.agg #[.int .u64 9007199254740992,.int .i64 22]) 1 0,.l 12 (.agg #[.bool false,.string s,.int .i64 x]) 0 0,.c (some 13) (cV (.tuple #[.int .u64 (n:Int),.int .i64 (m:Int),.bool true])),.v 10 (.tuple #[.int .u64 (n:Int),.int .i64 (m:Int),.bool true]),.v 14 (.int .u64 (n:Int)),.v 15 (.int .i64 (m:Int)),.v 16 (.bool true),.v 6 (.int .u64 (n:Int)),.v 7 (.int .i64 (m:Int)),.v 8 (.bool true)]) (fun p2=>[(2,.pointer (some ⟨(p1 0).N,0,none⟩)),(4,.float FloatKind.f64 0),(5,.bool false),(6,.int .u64 (n:Int)),(7,.int .i64 (m:Int)),(8,.bool true)]) (by kernel_rfl) (fun _ _=>by kernel_rfl) (fun _=>by kernel_rfl) (fun _=>by kernel_rfl) (fun p2=>?_) (fun p2 W2 T hF hK=>?_)
 ·iterate 2 refine ok_L (by kernel_rfl) (by kernel_rfl) (by kernel_rfl) ?_
  refine ok_c (fun W cx=>as_v (unhide HF _)) (by kernel_rfl) ?_
  iterate 7 refine ok_v (by kernel_rfl) ?_
  exact ok_nil
 replace hS:=SymF.fb hS hF [0] [⟨(p1 0).N,#[.bool false,.string s,.int .i64 x],25,true⟩] (by kernel_rfl) (by kernel_rfl)
 replace hG:=hF.gx
 clear hF
 have z2:=hS.fr.size
 refine wp_seq ?_
 refine wp_symQ hS hG hK (fun p3=>[.v 17 (.bool true),.v 18 (.bool false)]) (fun p3=>[(2,.pointer (some ⟨(p1 0).N,0,none⟩)),(4,.float FloatKind.f64 0),(5,.bool false),(6,.int .u64 (n:Int)),(7,.int .i64 (m:Int)),(18,.bool false)]) (by kernel_rfl) (fun _ _=>by kernel_rfl) (fun _=>by kernel_rfl) (fun _=>by kernel_rfl) (fun p3=>?_) (fun p3 W3 T hF hK=>?_)
 ·iterate 2 refine ok_v (by kernel_rfl) ?_
  exact ok_nil
 replace hS:=SymF.fb hS hF [0] [⟨(p1 0).N,#[.bool false,.string s,.int .i64 x],25,true⟩] (by kernel_rfl) (by kernel_rfl)
 replace hG:=hF.gx
 clear hF
 have z3:=hS.fr.size
 refine wp_cond_false (hK.ev 18 (by kernel_rfl) _ (by kernel_rfl)) ?_
 refine wp_skip ?_
 refine then_n ?_
 refine wp_symQ hS hG hK (fun p4=>[.v 19 (.int .u64 (n:Int)),.c (some 20) (cV (.float .f64 (floatOfInt .f64 (n:Int)))),.v 9 (.float .f64 (floatOfInt .f64 (n:Int)))]) (fun p4=>[(2,.pointer (some ⟨(p1 0).N,0,none⟩)),(4,.float FloatKind.f64 0),(5,.bool false),(7,.int .i64 (m:Int)),(9,.float .f64 (floatOfInt .f64 (n:Int))),(18,.bool false)]) (by kernel_rfl) (fun _ _=>by kernel_rfl) (fun _=>by kernel_rfl) (fun _=>by kernel_rfl) (fun p4=>?_) (fun p4 W4 T hF hK=>?_)
 ·refine ok_v (by kernel_rfl) ?_
  refine ok_c (fun W cx=>as_v (qnear64 _ n)) (by kernel_rfl) ?_
  refine ok_v (by kernel_rfl) ?_
  exact ok_nil
 replace hS:=SymF.fb hS hF [0] [⟨(p1 0).N,#[.bool false,.string s,.int .i64 x],25,true⟩] (by kernel_rfl) (by kernel_rfl)
 replace hG:=hF.gx
 clear hF
 have z4:=hS.fr.size
 refine wp_seq ?_
 refine wp_symQ hS hG hK (fun p5=>[.v 21 (.int .i64 (m:Int)),.v 22 (.bool false)]) (fun p5=>[(2,.pointer (some ⟨(p1 0).N,0,none⟩)),(4,.float FloatKind.f64 0),(5,.bool false),(7,.int .i64 (m:Int)),(9,.float .f64 (floatOfInt .f64 (n:Int))),(18,.bool false),(22,.bool false)]) (by kernel_rfl) (fun _ _=>by kernel_rfl) (fun _=>by kernel_rfl) (fun _=>by kernel_rfl) (fun p5=>?_) (fun p5 W5 T hF hK=>?_)
 ·refine ok_v (by kernel_rfl) ?_
  refine ok_vb (decide_eq_false (show ¬ (m:Int) < 0 by omega)) (by kernel_rfl) ?_
  exact ok_nil
 replace hS:=SymF.fb hS hF [0] [⟨(p1 0).N,#[.bool false,.string s,.int .i64 x],25,true⟩] (by kernel_rfl) (by kernel_rfl)
 replace hG:=hF.gx
 clear hF
 have z5:=hS.fr.size
 refine wp_cond_false (hK.ev 22 (by kernel_rfl) _ (by kernel_rfl)) ?_
 refine wp_symG hS hG hK (fun p6=>[.v 28 (.float .f64 (floatOfInt .f64 (n:Int))),.v 29 (.int .i64 (m:Int)),.c (some 30) (cV (.float .f64 p)),.v 31 (.float .f64 z),.v 9 (.float .f64 z)]) (fun p6=>[(2,.pointer (some ⟨(p1 0).N,0,none⟩)),(4,.float FloatKind.f64 0),(5,.bool false),(7,.int .i64 (m:Int)),(9,.float .f64 z),(18,.bool false),(22,.bool false)]) (by kernel_rfl) (fun _ _=>by kernel_rfl) (fun _=>by kernel_rfl) (fun _=>by kernel_rfl) (fun p6=>?_) (fun p6 W6 T hF hK=>?_)
 ·iterate 2 refine ok_v (by kernel_rfl) ?_
  refine ok_c (fun W cx=>as_v (unhide HP _)) (by kernel_rfl) ?_
  refine ok_vr (script_mul (t:=30) hz) (by kernel_rfl) ?_
  refine ok_v (by kernel_rfl) ?_
  exact ok_nil
 replace hS:=SymF.fb hS hF [0] [⟨(p1 0).N,#[.bool false,.string s,.int .i64 x],25,true⟩] (by kernel_rfl) (by kernel_rfl)
 replace hG:=hF.gx
 clear hF
 have z6:=hS.fr.size
 refine then_n ?_
 refine wp_seq ?_
 refine wp_symQ hS hG hK (fun p7=>[.v 32 (.pointer (some ⟨(p1 0).N,0,none⟩)),.l 33 (.bool false) 0 0]) (fun p7=>[(4,.float FloatKind.f64 0),(5,.bool false),(7,.int .i64 (m:Int)),(9,.float .f64 z),(18,.bool false),(22,.bool false),(33,.bool false)]) (by kernel_rfl) (fun _ _=>by kernel_rfl) (fun _=>by kernel_rfl) (fun _=>by kernel_rfl) (fun p7=>?_) (fun p7 W7 T hF hK=>?_)
 ·refine ok_v (by kernel_rfl) ?_
  refine ok_L (by kernel_rfl) (by kernel_rfl) (by kernel_rfl) ?_
  exact ok_nil
 replace hS:=SymF.fb hS hF [] [] (by kernel_rfl) (by kernel_rfl)
 replace hG:=hF.gx
 clear hF
 have z7:=hS.fr.size
 refine wp_cond_false (hK.ev 33 (by kernel_rfl) _ (by kernel_rfl)) ?_
 refine wp_skip ?_
 refine then_n ?_
 refine wp_symQ hS hG hK (fun p8=>[.v 36 (.float .f64 z),.v 4 (.float .f64 z),.v 5 (.bool true)]) (fun p8=>[(4,.float .f64 z),(5,.bool true),(7,.int .i64 (m:Int)),(9,.float .f64 z),(18,.bool false),(22,.bool false),(33,.bool false)]) (by kernel_rfl) (fun _ _=>by kernel_rfl) (fun _=>by kernel_rfl) (fun _=>by kernel_rfl) (fun p8=>?_) (fun p8 W8 T hF hK=>?_)
 ·iterate 3 refine ok_v (by kernel_rfl) ?_
  exact ok_nil
 replace hS:=SymF.fb hS hF [] [] (by kernel_rfl) (by kernel_rfl)
 replace hG:=hF.gx
 clear hF
 have z8:=hS.fr.size
 refine wp_ret ?_
 exact sym_end hS hK (.tuple #[.float .f64 z,.bool true]) [] [] (by kernel_rfl) (by kernel_rfl) ⟨rfl,hS.fr⟩
theorem qreach64 (w:World)   :
  Calls Tryd.prog 18 #[] w fun en w'=>en = .returned (.agg #[.int .u64 9007199254740992,.int .i64 22])∧Below w.heap.size w w':=by
 refine calls_sym Tryd.func18 rfl (by kernel_rfl) fun T hK=>?_
 replace hK:Kn T _ []:=hK
 have hS:=Fb.begin w
 have hG:GsAt [] w:=trivial
 refine wp_symQ hS hG hK (fun p1=>[.n 0 #[.int .u64 0,.int .i64 0] 48]) (fun p1=>[(0,.pointer (some ⟨(p1 0).N,0,none⟩))]) (by kernel_rfl) (fun _ _=>by kernel_rfl) (fun _=>by kernel_rfl) (fun _=>by kernel_rfl) (fun p1=>?_) (fun p1 W1 T hF hK=>?_)
 ·refine ok_n (fun _=>by kernel_rfl) ?_
  exact ok_nil
 replace hS:=SymF.fb hS hF [1000] [⟨(p1 0).N,#[.int .u64 0,.int .i64 0],48,true⟩] (by kernel_rfl) (by kernel_rfl)
 replace hG:=hF.gx
 clear hF
 have z1:=hS.fr.size
 refine wp_symQ hS hG hK (fun p2=>[.v 1 (.agg #[.int .u64 9007199254740992,.int .i64 22]),.p 0 0 [.int .u64 9007199254740992,.int .i64 22]]) (fun p2=>[(0,.pointer (some ⟨(p1 0).N,0,none⟩))]) (by kernel_rfl) (fun _ _=>by kernel_rfl) (fun _=>by kernel_rfl) (fun _=>by kernel_rfl) (fun p2=>?_) (fun p2 W2 T hF hK=>?_)
 ·refine ok_v (by kernel_rfl) ?_
  refine ok_P (by kernel_rfl) (by kernel_rfl) (by kernel_rfl) ?_
  exact ok_nil
 replace hS:=SymF.fb hS hF [0] [⟨(p1 0).N,#[.int .u64 9007199254740992,.int .i64 22],48,true⟩] (by kernel_rfl) (by kernel_rfl)
 replace hG:=hF.gx
 clear hF
 have z2:=hS.fr.size
 refine wp_ret ?_
 exact sym_end hS hK (.agg #[.int .u64 9007199254740992,.int .i64 22]) [(0,0,2)] [.int .u64 9007199254740992,.int .i64 22] (by kernel_rfl) (by kernel_rfl) ⟨rfl,hS.fr⟩
theorem qdouble (w:World) (g:Bool) (s:ByteArray) (x:Int) (z:Nat) (ok:Bool) (HN:Hid (∀ W:World,Calls Tryd.prog 17 #[.agg #[.bool g,.string s,.int .i64 x],.agg #[.int .u64 9007199254740992,.int .i64 22]] W fun e W'=>e = .returned (.tuple #[.float .f64 z,.bool ok])∧Below W.heap.size W W')) :
  Calls Tryd.prog 7 #[.agg #[.bool g,.string s,.int .i64 x]] w fun en w'=>en = .returned (.tuple #[.float .f64 z,.bool ok])∧Below w.heap.size w w':=by
 refine calls_sym Tryd.func7 rfl (by kernel_rfl) fun T hK=>?_
 replace hK:Kn T _ [(0,.agg #[.bool g,.string s,.int .i64 x])]:=hK
 have hS:=Fb.begin w
 have hG:GsAt [] w:=trivial
 refine wp_symQ hS hG hK (fun p1=>[.n 1 #[.bool g,.string s,.int .i64 x] 25,.v 2 (.float FloatKind.f64 0),.v 3 (.bool false)]) (fun p1=>[(1,.pointer (some ⟨(p1 0).N,0,none⟩)),(2,.float FloatKind.f64 0),(3,.bool false)]) (by kernel_rfl) (fun _ _=>by kernel_rfl) (fun _=>by kernel_rfl) (fun _=>by kernel_rfl) (fun p1=>?_) (fun p1 W1 T hF hK=>?_)
 ·refine ok_n (fun _=>by kernel_rfl) ?_
  iterate 2 refine ok_v (by kernel_rfl) ?_
  exact ok_nil
 replace hS:=SymF.fb hS hF [1000] [⟨(p1 0).N,#[.bool g,.string s,.int .i64 x],25,true⟩] (by kernel_rfl) (by kernel_rfl)
 replace hG:=hF.gx
 clear hF
 have z1:=hS.fr.size
 refine wp_symQ hS hG hK (fun p2=>[.l 4 (.agg #[.bool g,.string s,.int .i64 x]) 0 0,.c (some 5) (cV (.agg #[.int .u64 9007199254740992,.int .i64 22])),.c (some 6) (cV (.tuple #[.float .f64 z,.bool ok])),.v 7 (.float .f64 z),.v 8 (.bool ok),.v 2 (.float .f64 z),.v 3 (.bool ok)]) (fun p2=>[(2,.float .f64 z),(3,.bool ok)]) (by kernel_rfl) (fun _ _=>by kernel_rfl) (fun _=>by kernel_rfl) (fun _=>by kernel_rfl) (fun p2=>?_) (fun p2 W2 T hF hK=>?_)
 ·refine ok_L (by kernel_rfl) (by kernel_rfl) (by kernel_rfl) ?_
  refine ok_c (fun W cx=>as_v (qreach64 _)) (by kernel_rfl) ?_
  refine ok_c (fun W cx=>as_v (unhide HN _)) (by kernel_rfl) ?_
  iterate 4 refine ok_v (by kernel_rfl) ?_
  exact ok_nil
 replace hS:=SymF.fb hS hF [] [] (by kernel_rfl) (by kernel_rfl)
 replace hG:=hF.gx
 clear hF
 have z2:=hS.fr.size
 refine wp_ret ?_
 exact sym_end hS hK (.tuple #[.float .f64 z,.bool ok]) [] [] (by kernel_rfl) (by kernel_rfl) ⟨rfl,hS.fr⟩
theorem qfits (w:World) (g:Bool) (s:ByteArray) (x:Int) (n t:Int) (ok:Bool) (HF:Hid (∀ W:World,Calls Tryd.prog 21 #[.agg #[.int .u64 9007199254740992,.int .i64 22],.agg #[.bool g,.string s,.int .i64 x]] W fun e W'=>e = .returned (.tuple #[.int .u64 n,.int .i64 t,.bool ok])∧Below W.heap.size W W')) :
  Calls Tryd.prog 11 #[.agg #[.bool g,.string s,.int .i64 x]] w fun en w'=>en = .returned (.bool ok)∧Below w.heap.size w w':=by
 refine calls_sym Tryd.func11 rfl (by kernel_rfl) fun T hK=>?_
 replace hK:Kn T _ [(0,.agg #[.bool g,.string s,.int .i64 x])]:=hK
 have hS:=Fb.begin w
 have hG:GsAt [] w:=trivial
 refine wp_symQ hS hG hK (fun p1=>[.n 1 #[.bool g,.string s,.int .i64 x] 25,.v 2 (.bool false)]) (fun p1=>[(1,.pointer (some ⟨(p1 0).N,0,none⟩)),(2,.bool false)]) (by kernel_rfl) (fun _ _=>by kernel_rfl) (fun _=>by kernel_rfl) (fun _=>by kernel_rfl) (fun p1=>?_) (fun p1 W1 T hF hK=>?_)
 ·refine ok_n (fun _=>by kernel_rfl) ?_
  refine ok_v (by kernel_rfl) ?_
  exact ok_nil
 replace hS:=SymF.fb hS hF [1000] [⟨(p1 0).N,#[.bool g,.string s,.int .i64 x],25,true⟩] (by kernel_rfl) (by kernel_rfl)
 replace hG:=hF.gx
 clear hF
 have z1:=hS.fr.size
 refine wp_symQ hS hG hK (fun p2=>[.c (some 7) (cV (.agg #[.int .u64 9007199254740992,.int .i64 22])),.l 8 (.agg #[.bool g,.string s,.int .i64 x]) 0 0,.c (some 9) (cV (.tuple #[.int .u64 n,.int .i64 t,.bool ok])),.v 6 (.tuple #[.int .u64 n,.int .i64 t,.bool ok]),.v 10 (.int .u64 n),.v 11 (.int .i64 t),.v 12 (.bool ok),.v 3 (.int .u64 n),.v 4 (.int .i64 t),.v 5 (.bool ok)]) (fun p2=>[(2,.bool false),(5,.bool ok)]) (by kernel_rfl) (fun _ _=>by kernel_rfl) (fun _=>by kernel_rfl) (fun _=>by kernel_rfl) (fun p2=>?_) (fun p2 W2 T hF hK=>?_)
 ·refine ok_c (fun W cx=>as_v (qreach64 _)) (by kernel_rfl) ?_
  refine ok_L (by kernel_rfl) (by kernel_rfl) (by kernel_rfl) ?_
  refine ok_c (fun W cx=>as_v (unhide HF _)) (by kernel_rfl) ?_
  iterate 7 refine ok_v (by kernel_rfl) ?_
  exact ok_nil
 replace hS:=SymF.fb hS hF [] [] (by kernel_rfl) (by kernel_rfl)
 replace hG:=hF.gx
 clear hF
 have z2:=hS.fr.size
 refine wp_symQ hS hG hK (fun p3=>[.v 13 (.bool ok),.v 2 (.bool ok)]) (fun p3=>[(2,.bool ok)]) (by kernel_rfl) (fun _ _=>by kernel_rfl) (fun _=>by kernel_rfl) (fun _=>by kernel_rfl) (fun p3=>?_) (fun p3 W3 T hF hK=>?_)
 ·iterate 2 refine ok_v (by kernel_rfl) ?_
  exact ok_nil
 replace hS:=SymF.fb hS hF [] [] (by kernel_rfl) (by kernel_rfl)
 replace hG:=hF.gx
 clear hF
 have z3:=hS.fr.size
 refine wp_ret ?_
 exact sym_end hS hK (.bool ok) [] [] (by kernel_rfl) (by kernel_rfl) ⟨rfl,hS.fr⟩
theorem qnst32_qt (w:World) (s:ByteArray) (x:Int) (n m p z:Nat) (hm:0 < m∧m≤22) (HF:Hid (∀ W:World,Calls Tryd.prog 21 #[.agg #[.int .u64 16777216,.int .i64 10],.agg #[.bool true,.string s,.int .i64 x]] W fun e W'=>e = .returned (.tuple #[.int .u64 (n:Int),.int .i64 (-(m:Int)),.bool true])∧Below W.heap.size W W')) (HP:Hid (∀ W:World,Calls Tryd.prog 31 #[.int .i64 (m:Int)] W fun e W'=>e = .returned (.float .f32 p)∧Below W.heap.size W W')) (hz:FloatKind.f32.format.div (floatOfInt .f32 (n:Int)) p = some z) :
  Calls Tryd.prog 19 #[.agg #[.bool true,.string s,.int .i64 x],.agg #[.int .u64 16777216,.int .i64 10]] w fun en w'=>en = .returned (.tuple #[.float .f32 (Op.negFloat .f32 z),.bool true])∧Below w.heap.size w w':=by
 refine calls_sym Tryd.func19 rfl (by kernel_rfl) fun T hK=>?_
 replace hK:Kn T _ [(0,.agg #[.bool true,.string s,.int .i64 x]),(1,.agg #[.int .u64 16777216,.int .i64 10])]:=hK
 have hS:=Fb.begin w
 have hG:GsAt [] w:=trivial
 refine wp_symQ hS hG hK (fun p1=>[.n 2 #[.bool true,.string s,.int .i64 x] 25,.n 3 #[.int .u64 16777216,.int .i64 10] 48,.v 4 (.float FloatKind.f32 0),.v 5 (.bool false)]) (fun p1=>[(2,.pointer (some ⟨(p1 0).N,0,none⟩)),(3,.pointer (some ⟨(p1 1).N,0,none⟩)),(4,.float FloatKind.f32 0),(5,.bool false)]) (by kernel_rfl) (fun _ _=>by kernel_rfl) (fun _=>by kernel_rfl) (fun _=>by kernel_rfl) (fun p1=>?_) (fun p1 W1 T hF hK=>?_)
 ·iterate 2 refine ok_n (fun _=>by kernel_rfl) ?_
  iterate 2 refine ok_v (by kernel_rfl) ?_
  exact ok_nil
 replace hS:=SymF.fb hS hF [1000,1001] [⟨(p1 0).N,#[.bool true,.string s,.int .i64 x],25,true⟩,⟨(p1 1).N,#[.int .u64 16777216,.int .i64 10],48,true⟩] (by kernel_rfl) (by kernel_rfl)
 replace hG:=hF.gx
 clear hF
 have z1:=hS.fr.size
 refine wp_symQ hS hG hK (fun p2=>[.l 11 (.agg #[.int .u64 16777216,.int .i64 10]) 1 0,.l 12 (.agg #[.bool true,.string s,.int .i64 x]) 0 0,.c (some 13) (cV (.tuple #[.int .u64 (n:Int),.int .i64 (-(m:Int)),.bool true])),.v 10 (.tuple #[.int .u64 (n:Int),.int .i64 (-(m:Int)),.bool true]),.v 14 (.int .u64 (n:Int)),.v 15 (.int .i64 (-(m:Int))),.v 16 (.bool true),.v 6 (.int .u64 (n:Int)),.v 7 (.int .i64 (-(m:Int))),.v 8 (.bool true)]) (fun p2=>[(2,.pointer (some ⟨(p1 0).N,0,none⟩)),(4,.float FloatKind.f32 0),(5,.bool false),(6,.int .u64 (n:Int)),(7,.int .i64 (-(m:Int))),(8,.bool true)]) (by kernel_rfl) (fun _ _=>by kernel_rfl) (fun _=>by kernel_rfl) (fun _=>by kernel_rfl) (fun p2=>?_) (fun p2 W2 T hF hK=>?_)
 ·iterate 2 refine ok_L (by kernel_rfl) (by kernel_rfl) (by kernel_rfl) ?_
  refine ok_c (fun W cx=>as_v (unhide HF _)) (by kernel_rfl) ?_
  iterate 7 refine ok_v (by kernel_rfl) ?_
  exact ok_nil
 replace hS:=SymF.fb hS hF [0] [⟨(p1 0).N,#[.bool true,.string s,.int .i64 x],25,true⟩] (by kernel_rfl) (by kernel_rfl)
 replace hG:=hF.gx
 clear hF
 have z2:=hS.fr.size
 refine wp_seq ?_
 refine wp_symQ hS hG hK (fun p3=>[.v 17 (.bool true),.v 18 (.bool false)]) (fun p3=>[(2,.pointer (some ⟨(p1 0).N,0,none⟩)),(4,.float FloatKind.f32 0),(5,.bool false),(6,.int .u64 (n:Int)),(7,.int .i64 (-(m:Int))),(18,.bool false)]) (by kernel_rfl) (fun _ _=>by kernel_rfl) (fun _=>by kernel_rfl) (fun _=>by kernel_rfl) (fun p3=>?_) (fun p3 W3 T hF hK=>?_)
 ·iterate 2 refine ok_v (by kernel_rfl) ?_
  exact ok_nil
 replace hS:=SymF.fb hS hF [0] [⟨(p1 0).N,#[.bool true,.string s,.int .i64 x],25,true⟩] (by kernel_rfl) (by kernel_rfl)
 replace hG:=hF.gx
 clear hF
 have z3:=hS.fr.size
 refine wp_cond_false (hK.ev 18 (by kernel_rfl) _ (by kernel_rfl)) ?_
 refine wp_skip ?_
 refine then_n ?_
 refine wp_symQ hS hG hK (fun p4=>[.v 19 (.int .u64 (n:Int)),.c (some 20) (cV (.float .f32 (floatOfInt .f32 (n:Int)))),.v 9 (.float .f32 (floatOfInt .f32 (n:Int)))]) (fun p4=>[(2,.pointer (some ⟨(p1 0).N,0,none⟩)),(4,.float FloatKind.f32 0),(5,.bool false),(7,.int .i64 (-(m:Int))),(9,.float .f32 (floatOfInt .f32 (n:Int))),(18,.bool false)]) (by kernel_rfl) (fun _ _=>by kernel_rfl) (fun _=>by kernel_rfl) (fun _=>by kernel_rfl) (fun p4=>?_) (fun p4 W4 T hF hK=>?_)
 ·refine ok_v (by kernel_rfl) ?_
  refine ok_c (fun W cx=>as_v (qnear32 _ n)) (by kernel_rfl) ?_
  refine ok_v (by kernel_rfl) ?_
  exact ok_nil
 replace hS:=SymF.fb hS hF [0] [⟨(p1 0).N,#[.bool true,.string s,.int .i64 x],25,true⟩] (by kernel_rfl) (by kernel_rfl)
 replace hG:=hF.gx
 clear hF
 have z4:=hS.fr.size
 refine wp_seq ?_
 refine wp_symQ hS hG hK (fun p5=>[.v 21 (.int .i64 (-(m:Int))),.v 22 (.bool true)]) (fun p5=>[(2,.pointer (some ⟨(p1 0).N,0,none⟩)),(4,.float FloatKind.f32 0),(5,.bool false),(7,.int .i64 (-(m:Int))),(9,.float .f32 (floatOfInt .f32 (n:Int))),(18,.bool false),(22,.bool true)]) (by kernel_rfl) (fun _ _=>by kernel_rfl) (fun _=>by kernel_rfl) (fun _=>by kernel_rfl) (fun p5=>?_) (fun p5 W5 T hF hK=>?_)
 ·refine ok_v (by kernel_rfl) ?_
  refine ok_vb (decide_eq_true (show -(m:Int) < 0 by omega)) (by kernel_rfl) ?_
  exact ok_nil
 replace hS:=SymF.fb hS hF [0] [⟨(p1 0).N,#[.bool true,.string s,.int .i64 x],25,true⟩] (by kernel_rfl) (by kernel_rfl)
 replace hG:=hF.gx
 clear hF
 have z5:=hS.fr.size
 refine wp_cond_true (hK.ev 22 (by kernel_rfl) _ (by kernel_rfl)) ?_
 refine wp_symG hS hG hK (fun p6=>[.v 23 (.float .f32 (floatOfInt .f32 (n:Int))),.v 24 (.int .i64 (-(m:Int))),.v 25 (.int .i64 (m:Int)),.c (some 26) (cV (.float .f32 p)),.v 27 (.float .f32 z),.v 9 (.float .f32 z)]) (fun p6=>[(2,.pointer (some ⟨(p1 0).N,0,none⟩)),(4,.float FloatKind.f32 0),(5,.bool false),(7,.int .i64 (-(m:Int))),(9,.float .f32 z),(18,.bool false),(22,.bool true)]) (by kernel_rfl) (fun _ _=>by kernel_rfl) (fun _=>by kernel_rfl) (fun _=>by kernel_rfl) (fun p6=>?_) (fun p6 W6 T hF hK=>?_)
 ·iterate 2 refine ok_v (by kernel_rfl) ?_
  refine ok_vi ((wr64 (x:=0 - (-(m:Int))) (by omega) (by omega)).trans (by omega)) (by kernel_rfl) ?_
  refine ok_c (fun W cx=>as_v (unhide HP _)) (by kernel_rfl) ?_
  refine ok_vr (script_quo (t:=33) hz) (by kernel_rfl) ?_
  refine ok_v (by kernel_rfl) ?_
  exact ok_nil
 replace hS:=SymF.fb hS hF [0] [⟨(p1 0).N,#[.bool true,.string s,.int .i64 x],25,true⟩] (by kernel_rfl) (by kernel_rfl)
 replace hG:=hF.gx
 clear hF
 have z6:=hS.fr.size
 refine then_n ?_
 refine wp_seq ?_
 refine wp_symQ hS hG hK (fun p7=>[.v 32 (.pointer (some ⟨(p1 0).N,0,none⟩)),.l 33 (.bool true) 0 0]) (fun p7=>[(4,.float FloatKind.f32 0),(5,.bool false),(7,.int .i64 (-(m:Int))),(9,.float .f32 z),(18,.bool false),(22,.bool true),(33,.bool true)]) (by kernel_rfl) (fun _ _=>by kernel_rfl) (fun _=>by kernel_rfl) (fun _=>by kernel_rfl) (fun p7=>?_) (fun p7 W7 T hF hK=>?_)
 ·refine ok_v (by kernel_rfl) ?_
  refine ok_L (by kernel_rfl) (by kernel_rfl) (by kernel_rfl) ?_
  exact ok_nil
 replace hS:=SymF.fb hS hF [] [] (by kernel_rfl) (by kernel_rfl)
 replace hG:=hF.gx
 clear hF
 have z7:=hS.fr.size
 refine wp_cond_true (hK.ev 33 (by kernel_rfl) _ (by kernel_rfl)) ?_
 refine wp_symG hS hG hK (fun p8=>[.v 34 (.float .f32 z),.v 35 (.float .f32 (Op.negFloat .f32 z)),.v 9 (.float .f32 (Op.negFloat .f32 z))]) (fun p8=>[(4,.float FloatKind.f32 0),(5,.bool false),(7,.int .i64 (-(m:Int))),(9,.float .f32 (Op.negFloat .f32 z)),(18,.bool false),(22,.bool true),(33,.bool true)]) (by kernel_rfl) (fun _ _=>by kernel_rfl) (fun _=>by kernel_rfl) (fun _=>by kernel_rfl) (fun p8=>?_) (fun p8 W8 T hF hK=>?_)
 ·iterate 3 refine ok_v (by kernel_rfl) ?_
  exact ok_nil
 replace hS:=SymF.fb hS hF [] [] (by kernel_rfl) (by kernel_rfl)
 replace hG:=hF.gx
 clear hF
 have z8:=hS.fr.size
 refine then_n ?_
 refine wp_symQ hS hG hK (fun p9=>[.v 36 (.float .f32 (Op.negFloat .f32 z)),.v 4 (.float .f32 (Op.negFloat .f32 z)),.v 5 (.bool true)]) (fun p9=>[(4,.float .f32 (Op.negFloat .f32 z)),(5,.bool true),(7,.int .i64 (-(m:Int))),(9,.float .f32 (Op.negFloat .f32 z)),(18,.bool false),(22,.bool true),(33,.bool true)]) (by kernel_rfl) (fun _ _=>by kernel_rfl) (fun _=>by kernel_rfl) (fun _=>by kernel_rfl) (fun p9=>?_) (fun p9 W9 T hF hK=>?_)
 ·iterate 3 refine ok_v (by kernel_rfl) ?_
  exact ok_nil
 replace hS:=SymF.fb hS hF [] [] (by kernel_rfl) (by kernel_rfl)
 replace hG:=hF.gx
 clear hF
 have z9:=hS.fr.size
 refine wp_ret ?_
 exact sym_end hS hK (.tuple #[.float .f32 (Op.negFloat .f32 z),.bool true]) [] [] (by kernel_rfl) (by kernel_rfl) ⟨rfl,hS.fr⟩
theorem qnst32_qf (w:World) (s:ByteArray) (x:Int) (n m p z:Nat) (hm:0 < m∧m≤22) (HF:Hid (∀ W:World,Calls Tryd.prog 21 #[.agg #[.int .u64 16777216,.int .i64 10],.agg #[.bool false,.string s,.int .i64 x]] W fun e W'=>e = .returned (.tuple #[.int .u64 (n:Int),.int .i64 (-(m:Int)),.bool true])∧Below W.heap.size W W')) (HP:Hid (∀ W:World,Calls Tryd.prog 31 #[.int .i64 (m:Int)] W fun e W'=>e = .returned (.float .f32 p)∧Below W.heap.size W W')) (hz:FloatKind.f32.format.div (floatOfInt .f32 (n:Int)) p = some z) :
  Calls Tryd.prog 19 #[.agg #[.bool false,.string s,.int .i64 x],.agg #[.int .u64 16777216,.int .i64 10]] w fun en w'=>en = .returned (.tuple #[.float .f32 z,.bool true])∧Below w.heap.size w w':=by
 refine calls_sym Tryd.func19 rfl (by kernel_rfl) fun T hK=>?_
 replace hK:Kn T _ [(0,.agg #[.bool false,.string s,.int .i64 x]),(1,.agg #[.int .u64 16777216,.int .i64 10])]:=hK
 have hS:=Fb.begin w
 have hG:GsAt [] w:=trivial
 refine wp_symQ hS hG hK (fun p1=>[.n 2 #[.bool false,.string s,.int .i64 x] 25,.n 3 #[.int .u64 16777216,.int .i64 10] 48,.v 4 (.float FloatKind.f32 0),.v 5 (.bool false)]) (fun p1=>[(2,.pointer (some ⟨(p1 0).N,0,none⟩)),(3,.pointer (some ⟨(p1 1).N,0,none⟩)),(4,.float FloatKind.f32 0),(5,.bool false)]) (by kernel_rfl) (fun _ _=>by kernel_rfl) (fun _=>by kernel_rfl) (fun _=>by kernel_rfl) (fun p1=>?_) (fun p1 W1 T hF hK=>?_)
 ·iterate 2 refine ok_n (fun _=>by kernel_rfl) ?_
  iterate 2 refine ok_v (by kernel_rfl) ?_
  exact ok_nil
 replace hS:=SymF.fb hS hF [1000,1001] [⟨(p1 0).N,#[.bool false,.string s,.int .i64 x],25,true⟩,⟨(p1 1).N,#[.int .u64 16777216,.int .i64 10],48,true⟩] (by kernel_rfl) (by kernel_rfl)
 replace hG:=hF.gx
 clear hF
 have z1:=hS.fr.size
 refine wp_symQ hS hG hK (fun p2=>[.l 11 (.agg #[.int .u64 16777216,.int .i64 10]) 1 0,.l 12 (.agg #[.bool false,.string s,.int .i64 x]) 0 0,.c (some 13) (cV (.tuple #[.int .u64 (n:Int),.int .i64 (-(m:Int)),.bool true])),.v 10 (.tuple #[.int .u64 (n:Int),.int .i64 (-(m:Int)),.bool true]),.v 14 (.int .u64 (n:Int)),.v 15 (.int .i64 (-(m:Int))),.v 16 (.bool true),.v 6 (.int .u64 (n:Int)),.v 7 (.int .i64 (-(m:Int))),.v 8 (.bool true)]) (fun p2=>[(2,.pointer (some ⟨(p1 0).N,0,none⟩)),(4,.float FloatKind.f32 0),(5,.bool false),(6,.int .u64 (n:Int)),(7,.int .i64 (-(m:Int))),(8,.bool true)]) (by kernel_rfl) (fun _ _=>by kernel_rfl) (fun _=>by kernel_rfl) (fun _=>by kernel_rfl) (fun p2=>?_) (fun p2 W2 T hF hK=>?_)
 ·iterate 2 refine ok_L (by kernel_rfl) (by kernel_rfl) (by kernel_rfl) ?_
  refine ok_c (fun W cx=>as_v (unhide HF _)) (by kernel_rfl) ?_
  iterate 7 refine ok_v (by kernel_rfl) ?_
  exact ok_nil
 replace hS:=SymF.fb hS hF [0] [⟨(p1 0).N,#[.bool false,.string s,.int .i64 x],25,true⟩] (by kernel_rfl) (by kernel_rfl)
 replace hG:=hF.gx
 clear hF
 have z2:=hS.fr.size
 refine wp_seq ?_
 refine wp_symQ hS hG hK (fun p3=>[.v 17 (.bool true),.v 18 (.bool false)]) (fun p3=>[(2,.pointer (some ⟨(p1 0).N,0,none⟩)),(4,.float FloatKind.f32 0),(5,.bool false),(6,.int .u64 (n:Int)),(7,.int .i64 (-(m:Int))),(18,.bool false)]) (by kernel_rfl) (fun _ _=>by kernel_rfl) (fun _=>by kernel_rfl) (fun _=>by kernel_rfl) (fun p3=>?_) (fun p3 W3 T hF hK=>?_)
 ·iterate 2 refine ok_v (by kernel_rfl) ?_
  exact ok_nil
 replace hS:=SymF.fb hS hF [0] [⟨(p1 0).N,#[.bool false,.string s,.int .i64 x],25,true⟩] (by kernel_rfl) (by kernel_rfl)
 replace hG:=hF.gx
 clear hF
 have z3:=hS.fr.size
 refine wp_cond_false (hK.ev 18 (by kernel_rfl) _ (by kernel_rfl)) ?_
 refine wp_skip ?_
 refine then_n ?_
 refine wp_symQ hS hG hK (fun p4=>[.v 19 (.int .u64 (n:Int)),.c (some 20) (cV (.float .f32 (floatOfInt .f32 (n:Int)))),.v 9 (.float .f32 (floatOfInt .f32 (n:Int)))]) (fun p4=>[(2,.pointer (some ⟨(p1 0).N,0,none⟩)),(4,.float FloatKind.f32 0),(5,.bool false),(7,.int .i64 (-(m:Int))),(9,.float .f32 (floatOfInt .f32 (n:Int))),(18,.bool false)]) (by kernel_rfl) (fun _ _=>by kernel_rfl) (fun _=>by kernel_rfl) (fun _=>by kernel_rfl) (fun p4=>?_) (fun p4 W4 T hF hK=>?_)
 ·refine ok_v (by kernel_rfl) ?_
  refine ok_c (fun W cx=>as_v (qnear32 _ n)) (by kernel_rfl) ?_
  refine ok_v (by kernel_rfl) ?_
  exact ok_nil
 replace hS:=SymF.fb hS hF [0] [⟨(p1 0).N,#[.bool false,.string s,.int .i64 x],25,true⟩] (by kernel_rfl) (by kernel_rfl)
 replace hG:=hF.gx
 clear hF
 have z4:=hS.fr.size
 refine wp_seq ?_
 refine wp_symQ hS hG hK (fun p5=>[.v 21 (.int .i64 (-(m:Int))),.v 22 (.bool true)]) (fun p5=>[(2,.pointer (some ⟨(p1 0).N,0,none⟩)),(4,.float FloatKind.f32 0),(5,.bool false),(7,.int .i64 (-(m:Int))),(9,.float .f32 (floatOfInt .f32 (n:Int))),(18,.bool false),(22,.bool true)]) (by kernel_rfl) (fun _ _=>by kernel_rfl) (fun _=>by kernel_rfl) (fun _=>by kernel_rfl) (fun p5=>?_) (fun p5 W5 T hF hK=>?_)
 ·refine ok_v (by kernel_rfl) ?_
  refine ok_vb (decide_eq_true (show -(m:Int) < 0 by omega)) (by kernel_rfl) ?_
  exact ok_nil
 replace hS:=SymF.fb hS hF [0] [⟨(p1 0).N,#[.bool false,.string s,.int .i64 x],25,true⟩] (by kernel_rfl) (by kernel_rfl)
 replace hG:=hF.gx
 clear hF
 have z5:=hS.fr.size
 refine wp_cond_true (hK.ev 22 (by kernel_rfl) _ (by kernel_rfl)) ?_
 refine wp_symG hS hG hK (fun p6=>[.v 23 (.float .f32 (floatOfInt .f32 (n:Int))),.v 24 (.int .i64 (-(m:Int))),.v 25 (.int .i64 (m:Int)),.c (some 26) (cV (.float .f32 p)),.v 27 (.float .f32 z),.v 9 (.float .f32 z)]) (fun p6=>[(2,.pointer (some ⟨(p1 0).N,0,none⟩)),(4,.float FloatKind.f32 0),(5,.bool false),(7,.int .i64 (-(m:Int))),(9,.float .f32 z),(18,.bool false),(22,.bool true)]) (by kernel_rfl) (fun _ _=>by kernel_rfl) (fun _=>by kernel_rfl) (fun _=>by kernel_rfl) (fun p6=>?_) (fun p6 W6 T hF hK=>?_)
 ·iterate 2 refine ok_v (by kernel_rfl) ?_
  refine ok_vi ((wr64 (x:=0 - (-(m:Int))) (by omega) (by omega)).trans (by omega)) (by kernel_rfl) ?_
  refine ok_c (fun W cx=>as_v (unhide HP _)) (by kernel_rfl) ?_
  refine ok_vr (script_quo (t:=33) hz) (by kernel_rfl) ?_
  refine ok_v (by kernel_rfl) ?_
  exact ok_nil
 replace hS:=SymF.fb hS hF [0] [⟨(p1 0).N,#[.bool false,.string s,.int .i64 x],25,true⟩] (by kernel_rfl) (by kernel_rfl)
 replace hG:=hF.gx
 clear hF
 have z6:=hS.fr.size
 refine then_n ?_
 refine wp_seq ?_
 refine wp_symQ hS hG hK (fun p7=>[.v 32 (.pointer (some ⟨(p1 0).N,0,none⟩)),.l 33 (.bool false) 0 0]) (fun p7=>[(4,.float FloatKind.f32 0),(5,.bool false),(7,.int .i64 (-(m:Int))),(9,.float .f32 z),(18,.bool false),(22,.bool true),(33,.bool false)]) (by kernel_rfl) (fun _ _=>by kernel_rfl) (fun _=>by kernel_rfl) (fun _=>by kernel_rfl) (fun p7=>?_) (fun p7 W7 T hF hK=>?_)
 ·refine ok_v (by kernel_rfl) ?_
  refine ok_L (by kernel_rfl) (by kernel_rfl) (by kernel_rfl) ?_
  exact ok_nil
 replace hS:=SymF.fb hS hF [] [] (by kernel_rfl) (by kernel_rfl)
 replace hG:=hF.gx
 clear hF
 have z7:=hS.fr.size
 refine wp_cond_false (hK.ev 33 (by kernel_rfl) _ (by kernel_rfl)) ?_
 refine wp_skip ?_
 refine then_n ?_
 refine wp_symQ hS hG hK (fun p8=>[.v 36 (.float .f32 z),.v 4 (.float .f32 z),.v 5 (.bool true)]) (fun p8=>[(4,.float .f32 z),(5,.bool true),(7,.int .i64 (-(m:Int))),(9,.float .f32 z),(18,.bool false),(22,.bool true),(33,.bool false)]) (by kernel_rfl) (fun _ _=>by kernel_rfl) (fun _=>by kernel_rfl) (fun _=>by kernel_rfl) (fun p8=>?_) (fun p8 W8 T hF hK=>?_)
 ·iterate 3 refine ok_v (by kernel_rfl) ?_
  exact ok_nil
 replace hS:=SymF.fb hS hF [] [] (by kernel_rfl) (by kernel_rfl)
 replace hG:=hF.gx
 clear hF
 have z8:=hS.fr.size
 refine wp_ret ?_
 exact sym_end hS hK (.tuple #[.float .f32 z,.bool true]) [] [] (by kernel_rfl) (by kernel_rfl) ⟨rfl,hS.fr⟩
theorem qnst32_pt (w:World) (s:ByteArray) (x:Int) (n m p z:Nat) (hm:m≤22) (HF:Hid (∀ W:World,Calls Tryd.prog 21 #[.agg #[.int .u64 16777216,.int .i64 10],.agg #[.bool true,.string s,.int .i64 x]] W fun e W'=>e = .returned (.tuple #[.int .u64 (n:Int),.int .i64 (m:Int),.bool true])∧Below W.heap.size W W')) (HP:Hid (∀ W:World,Calls Tryd.prog 31 #[.int .i64 (m:Int)] W fun e W'=>e = .returned (.float .f32 p)∧Below W.heap.size W W')) (hz:FloatKind.f32.format.mul (floatOfInt .f32 (n:Int)) p = some z) :
  Calls Tryd.prog 19 #[.agg #[.bool true,.string s,.int .i64 x],.agg #[.int .u64 16777216,.int .i64 10]] w fun en w'=>en = .returned (.tuple #[.float .f32 (Op.negFloat .f32 z),.bool true])∧Below w.heap.size w w':=by
 refine calls_sym Tryd.func19 rfl (by kernel_rfl) fun T hK=>?_
 replace hK:Kn T _ [(0,.agg #[.bool true,.string s,.int .i64 x]),(1,.agg #[.int .u64 16777216,.int .i64 10])]:=hK
 have hS:=Fb.begin w
 have hG:GsAt [] w:=trivial
 refine wp_symQ hS hG hK (fun p1=>[.n 2 #[.bool true,.string s,.int .i64 x] 25,.n 3 #[.int .u64 16777216,.int .i64 10] 48,.v 4 (.float FloatKind.f32 0),.v 5 (.bool false)]) (fun p1=>[(2,.pointer (some ⟨(p1 0).N,0,none⟩)),(3,.pointer (some ⟨(p1 1).N,0,none⟩)),(4,.float FloatKind.f32 0),(5,.bool false)]) (by kernel_rfl) (fun _ _=>by kernel_rfl) (fun _=>by kernel_rfl) (fun _=>by kernel_rfl) (fun p1=>?_) (fun p1 W1 T hF hK=>?_)
 ·iterate 2 refine ok_n (fun _=>by kernel_rfl) ?_
  iterate 2 refine ok_v (by kernel_rfl) ?_
  exact ok_nil
 replace hS:=SymF.fb hS hF [1000,1001] [⟨(p1 0).N,#[.bool true,.string s,.int .i64 x],25,true⟩,⟨(p1 1).N,#[.int .u64 16777216,.int .i64 10],48,true⟩] (by kernel_rfl) (by kernel_rfl)
 replace hG:=hF.gx
 clear hF
 have z1:=hS.fr.size
 refine wp_symQ hS hG hK (fun p2=>[.l 11 (.agg #[.int .u64 16777216,.int .i64 10]) 1 0,.l 12 (.agg #[.bool true,.string s,.int .i64 x]) 0 0,.c (some 13) (cV (.tuple #[.int .u64 (n:Int),.int .i64 (m:Int),.bool true])),.v 10 (.tuple #[.int .u64 (n:Int),.int .i64 (m:Int),.bool true]),.v 14 (.int .u64 (n:Int)),.v 15 (.int .i64 (m:Int)),.v 16 (.bool true),.v 6 (.int .u64 (n:Int)),.v 7 (.int .i64 (m:Int)),.v 8 (.bool true)]) (fun p2=>[(2,.pointer (some ⟨(p1 0).N,0,none⟩)),(4,.float FloatKind.f32 0),(5,.bool false),(6,.int .u64 (n:Int)),(7,.int .i64 (m:Int)),(8,.bool true)]) (by kernel_rfl) (fun _ _=>by kernel_rfl) (fun _=>by kernel_rfl) (fun _=>by kernel_rfl) (fun p2=>?_) (fun p2 W2 T hF hK=>?_)
 ·iterate 2 refine ok_L (by kernel_rfl) (by kernel_rfl) (by kernel_rfl) ?_
  refine ok_c (fun W cx=>as_v (unhide HF _)) (by kernel_rfl) ?_
  iterate 7 refine ok_v (by kernel_rfl) ?_
  exact ok_nil
 replace hS:=SymF.fb hS hF [0] [⟨(p1 0).N,#[.bool true,.string s,.int .i64 x],25,true⟩] (by kernel_rfl) (by kernel_rfl)
 replace hG:=hF.gx
 clear hF
 have z2:=hS.fr.size
 refine wp_seq ?_
 refine wp_symQ hS hG hK (fun p3=>[.v 17 (.bool true),.v 18 (.bool false)]) (fun p3=>[(2,.pointer (some ⟨(p1 0).N,0,none⟩)),(4,.float FloatKind.f32 0),(5,.bool false),(6,.int .u64 (n:Int)),(7,.int .i64 (m:Int)),(18,.bool false)]) (by kernel_rfl) (fun _ _=>by kernel_rfl) (fun _=>by kernel_rfl) (fun _=>by kernel_rfl) (fun p3=>?_) (fun p3 W3 T hF hK=>?_)
 ·iterate 2 refine ok_v (by kernel_rfl) ?_
  exact ok_nil
 replace hS:=SymF.fb hS hF [0] [⟨(p1 0).N,#[.bool true,.string s,.int .i64 x],25,true⟩] (by kernel_rfl) (by kernel_rfl)
 replace hG:=hF.gx
 clear hF
 have z3:=hS.fr.size
 refine wp_cond_false (hK.ev 18 (by kernel_rfl) _ (by kernel_rfl)) ?_
 refine wp_skip ?_
 refine then_n ?_
 refine wp_symQ hS hG hK (fun p4=>[.v 19 (.int .u64 (n:Int)),.c (some 20) (cV (.float .f32 (floatOfInt .f32 (n:Int)))),.v 9 (.float .f32 (floatOfInt .f32 (n:Int)))]) (fun p4=>[(2,.pointer (some ⟨(p1 0).N,0,none⟩)),(4,.float FloatKind.f32 0),(5,.bool false),(7,.int .i64 (m:Int)),(9,.float .f32 (floatOfInt .f32 (n:Int))),(18,.bool false)]) (by kernel_rfl) (fun _ _=>by kernel_rfl) (fun _=>by kernel_rfl) (fun _=>by kernel_rfl) (fun p4=>?_) (fun p4 W4 T hF hK=>?_)
 ·refine ok_v (by kernel_rfl) ?_
  refine ok_c (fun W cx=>as_v (qnear32 _ n)) (by kernel_rfl) ?_
  refine ok_v (by kernel_rfl) ?_
  exact ok_nil
 replace hS:=SymF.fb hS hF [0] [⟨(p1 0).N,#[.bool true,.string s,.int .i64 x],25,true⟩] (by kernel_rfl) (by kernel_rfl)
 replace hG:=hF.gx
 clear hF
 have z4:=hS.fr.size
 refine wp_seq ?_
 refine wp_symQ hS hG hK (fun p5=>[.v 21 (.int .i64 (m:Int)),.v 22 (.bool false)]) (fun p5=>[(2,.pointer (some ⟨(p1 0).N,0,none⟩)),(4,.float FloatKind.f32 0),(5,.bool false),(7,.int .i64 (m:Int)),(9,.float .f32 (floatOfInt .f32 (n:Int))),(18,.bool false),(22,.bool false)]) (by kernel_rfl) (fun _ _=>by kernel_rfl) (fun _=>by kernel_rfl) (fun _=>by kernel_rfl) (fun p5=>?_) (fun p5 W5 T hF hK=>?_)
 ·refine ok_v (by kernel_rfl) ?_
  refine ok_vb (decide_eq_false (show ¬ (m:Int) < 0 by omega)) (by kernel_rfl) ?_
  exact ok_nil
 replace hS:=SymF.fb hS hF [0] [⟨(p1 0).N,#[.bool true,.string s,.int .i64 x],25,true⟩] (by kernel_rfl) (by kernel_rfl)
 replace hG:=hF.gx
 clear hF
 have z5:=hS.fr.size
 refine wp_cond_false (hK.ev 22 (by kernel_rfl) _ (by kernel_rfl)) ?_
 refine wp_symG hS hG hK (fun p6=>[.v 28 (.float .f32 (floatOfInt .f32 (n:Int))),.v 29 (.int .i64 (m:Int)),.c (some 30) (cV (.float .f32 p)),.v 31 (.float .f32 z),.v 9 (.float .f32 z)]) (fun p6=>[(2,.pointer (some ⟨(p1 0).N,0,none⟩)),(4,.float FloatKind.f32 0),(5,.bool false),(7,.int .i64 (m:Int)),(9,.float .f32 z),(18,.bool false),(22,.bool false)]) (by kernel_rfl) (fun _ _=>by kernel_rfl) (fun _=>by kernel_rfl) (fun _=>by kernel_rfl) (fun p6=>?_) (fun p6 W6 T hF hK=>?_)
 ·iterate 2 refine ok_v (by kernel_rfl) ?_
  refine ok_c (fun W cx=>as_v (unhide HP _)) (by kernel_rfl) ?_
  refine ok_vr (script_mul (t:=33) hz) (by kernel_rfl) ?_
  refine ok_v (by kernel_rfl) ?_
  exact ok_nil
 replace hS:=SymF.fb hS hF [0] [⟨(p1 0).N,#[.bool true,.string s,.int .i64 x],25,true⟩] (by kernel_rfl) (by kernel_rfl)
 replace hG:=hF.gx
 clear hF
 have z6:=hS.fr.size
 refine then_n ?_
 refine wp_seq ?_
 refine wp_symQ hS hG hK (fun p7=>[.v 32 (.pointer (some ⟨(p1 0).N,0,none⟩)),.l 33 (.bool true) 0 0]) (fun p7=>[(4,.float FloatKind.f32 0),(5,.bool false),(7,.int .i64 (m:Int)),(9,.float .f32 z),(18,.bool false),(22,.bool false),(33,.bool true)]) (by kernel_rfl) (fun _ _=>by kernel_rfl) (fun _=>by kernel_rfl) (fun _=>by kernel_rfl) (fun p7=>?_) (fun p7 W7 T hF hK=>?_)
 ·refine ok_v (by kernel_rfl) ?_
  refine ok_L (by kernel_rfl) (by kernel_rfl) (by kernel_rfl) ?_
  exact ok_nil
 replace hS:=SymF.fb hS hF [] [] (by kernel_rfl) (by kernel_rfl)
 replace hG:=hF.gx
 clear hF
 have z7:=hS.fr.size
 refine wp_cond_true (hK.ev 33 (by kernel_rfl) _ (by kernel_rfl)) ?_
 refine wp_symG hS hG hK (fun p8=>[.v 34 (.float .f32 z),.v 35 (.float .f32 (Op.negFloat .f32 z)),.v 9 (.float .f32 (Op.negFloat .f32 z))]) (fun p8=>[(4,.float FloatKind.f32 0),(5,.bool false),(7,.int .i64 (m:Int)),(9,.float .f32 (Op.negFloat .f32 z)),(18,.bool false),(22,.bool false),(33,.bool true)]) (by kernel_rfl) (fun _ _=>by kernel_rfl) (fun _=>by kernel_rfl) (fun _=>by kernel_rfl) (fun p8=>?_) (fun p8 W8 T hF hK=>?_)
 ·iterate 3 refine ok_v (by kernel_rfl) ?_
  exact ok_nil
 replace hS:=SymF.fb hS hF [] [] (by kernel_rfl) (by kernel_rfl)
 replace hG:=hF.gx
 clear hF
 have z8:=hS.fr.size
 refine then_n ?_
 refine wp_symQ hS hG hK (fun p9=>[.v 36 (.float .f32 (Op.negFloat .f32 z)),.v 4 (.float .f32 (Op.negFloat .f32 z)),.v 5 (.bool true)]) (fun p9=>[(4,.float .f32 (Op.negFloat .f32 z)),(5,.bool true),(7,.int .i64 (m:Int)),(9,.float .f32 (Op.negFloat .f32 z)),(18,.bool false),(22,.bool false),(33,.bool true)]) (by kernel_rfl) (fun _ _=>by kernel_rfl) (fun _=>by kernel_rfl) (fun _=>by kernel_rfl) (fun p9=>?_) (fun p9 W9 T hF hK=>?_)
 ·iterate 3 refine ok_v (by kernel_rfl) ?_
  exact ok_nil
 replace hS:=SymF.fb hS hF [] [] (by kernel_rfl) (by kernel_rfl)
 replace hG:=hF.gx
 clear hF
 have z9:=hS.fr.size
 refine wp_ret ?_
 exact sym_end hS hK (.tuple #[.float .f32 (Op.negFloat .f32 z),.bool true]) [] [] (by kernel_rfl) (by kernel_rfl) ⟨rfl,hS.fr⟩
theorem qnst32_pf (w:World) (s:ByteArray) (x:Int) (n m p z:Nat) (hm:m≤22) (HF:Hid (∀ W:World,Calls Tryd.prog 21 #[.agg #[.int .u64 16777216,.int .i64 10],.agg #[.bool false,.string s,.int .i64 x]] W fun e W'=>e = .returned (.tuple #[.int .u64 (n:Int),.int .i64 (m:Int),.bool true])∧Below W.heap.size W W')) (HP:Hid (∀ W:World,Calls Tryd.prog 31 #[.int .i64 (m:Int)] W fun e W'=>e = .returned (.float .f32 p)∧Below W.heap.size W W')) (hz:FloatKind.f32.format.mul (floatOfInt .f32 (n:Int)) p = some z) :
  Calls Tryd.prog 19 #[.agg #[.bool false,.string s,.int .i64 x],.agg #[.int .u64 16777216,.int .i64 10]] w fun en w'=>en = .returned (.tuple #[.float .f32 z,.bool true])∧Below w.heap.size w w':=by
 refine calls_sym Tryd.func19 rfl (by kernel_rfl) fun T hK=>?_
 replace hK:Kn T _ [(0,.agg #[.bool false,.string s,.int .i64 x]),(1,.agg #[.int .u64 16777216,.int .i64 10])]:=hK
 have hS:=Fb.begin w
 have hG:GsAt [] w:=trivial
 refine wp_symQ hS hG hK (fun p1=>[.n 2 #[.bool false,.string s,.int .i64 x] 25,.n 3 #[.int .u64 16777216,.int .i64 10] 48,.v 4 (.float FloatKind.f32 0),.v 5 (.bool false)]) (fun p1=>[(2,.pointer (some ⟨(p1 0).N,0,none⟩)),(3,.pointer (some ⟨(p1 1).N,0,none⟩)),(4,.float FloatKind.f32 0),(5,.bool false)]) (by kernel_rfl) (fun _ _=>by kernel_rfl) (fun _=>by kernel_rfl) (fun _=>by kernel_rfl) (fun p1=>?_) (fun p1 W1 T hF hK=>?_)
 ·iterate 2 refine ok_n (fun _=>by kernel_rfl) ?_
  iterate 2 refine ok_v (by kernel_rfl) ?_
  exact ok_nil
 replace hS:=SymF.fb hS hF [1000,1001] [⟨(p1 0).N,#[.bool false,.string s,.int .i64 x],25,true⟩,⟨(p1 1).N,#[.int .u64 16777216,.int .i64 10],48,true⟩] (by kernel_rfl) (by kernel_rfl)
 replace hG:=hF.gx
 clear hF
 have z1:=hS.fr.size
 refine wp_symQ hS hG hK (fun p2=>[.l 11 (.agg #[.int .u64 16777216,.int .i64 10]) 1 0,.l 12 (.agg #[.bool false,.string s,.int .i64 x]) 0 0,.c (some 13) (cV (.tuple #[.int .u64 (n:Int),.int .i64 (m:Int),.bool true])),.v 10 (.tuple #[.int .u64 (n:Int),.int .i64 (m:Int),.bool true]),.v 14 (.int .u64 (n:Int)),.v 15 (.int .i64 (m:Int)),.v 16 (.bool true),.v 6 (.int .u64 (n:Int)),.v 7 (.int .i64 (m:Int)),.v 8 (.bool true)]) (fun p2=>[(2,.pointer (some ⟨(p1 0).N,0,none⟩)),(4,.float FloatKind.f32 0),(5,.bool false),(6,.int .u64 (n:Int)),(7,.int .i64 (m:Int)),(8,.bool true)]) (by kernel_rfl) (fun _ _=>by kernel_rfl) (fun _=>by kernel_rfl) (fun _=>by kernel_rfl) (fun p2=>?_) (fun p2 W2 T hF hK=>?_)
 ·iterate 2 refine ok_L (by kernel_rfl) (by kernel_rfl) (by kernel_rfl) ?_
  refine ok_c (fun W cx=>as_v (unhide HF _)) (by kernel_rfl) ?_
  iterate 7 refine ok_v (by kernel_rfl) ?_
  exact ok_nil
 replace hS:=SymF.fb hS hF [0] [⟨(p1 0).N,#[.bool false,.string s,.int .i64 x],25,true⟩] (by kernel_rfl) (by kernel_rfl)
 replace hG:=hF.gx
 clear hF
 have z2:=hS.fr.size
 refine wp_seq ?_
 refine wp_symQ hS hG hK (fun p3=>[.v 17 (.bool true),.v 18 (.bool false)]) (fun p3=>[(2,.pointer (some ⟨(p1 0).N,0,none⟩)),(4,.float FloatKind.f32 0),(5,.bool false),(6,.int .u64 (n:Int)),(7,.int .i64 (m:Int)),(18,.bool false)]) (by kernel_rfl) (fun _ _=>by kernel_rfl) (fun _=>by kernel_rfl) (fun _=>by kernel_rfl) (fun p3=>?_) (fun p3 W3 T hF hK=>?_)
 ·iterate 2 refine ok_v (by kernel_rfl) ?_
  exact ok_nil
 replace hS:=SymF.fb hS hF [0] [⟨(p1 0).N,#[.bool false,.string s,.int .i64 x],25,true⟩] (by kernel_rfl) (by kernel_rfl)
 replace hG:=hF.gx
 clear hF
 have z3:=hS.fr.size
 refine wp_cond_false (hK.ev 18 (by kernel_rfl) _ (by kernel_rfl)) ?_
 refine wp_skip ?_
 refine then_n ?_
 refine wp_symQ hS hG hK (fun p4=>[.v 19 (.int .u64 (n:Int)),.c (some 20) (cV (.float .f32 (floatOfInt .f32 (n:Int)))),.v 9 (.float .f32 (floatOfInt .f32 (n:Int)))]) (fun p4=>[(2,.pointer (some ⟨(p1 0).N,0,none⟩)),(4,.float FloatKind.f32 0),(5,.bool false),(7,.int .i64 (m:Int)),(9,.float .f32 (floatOfInt .f32 (n:Int))),(18,.bool false)]) (by kernel_rfl) (fun _ _=>by kernel_rfl) (fun _=>by kernel_rfl) (fun _=>by kernel_rfl) (fun p4=>?_) (fun p4 W4 T hF hK=>?_)
 ·refine ok_v (by kernel_rfl) ?_
  refine ok_c (fun W cx=>as_v (qnear32 _ n)) (by kernel_rfl) ?_
  refine ok_v (by kernel_rfl) ?_
  exact ok_nil
 replace hS:=SymF.fb hS hF [0] [⟨(p1 0).N,#[.bool false,.string s,.int .i64 x],25,true⟩] (by kernel_rfl) (by kernel_rfl)
 replace hG:=hF.gx
 clear hF
 have z4:=hS.fr.size
 refine wp_seq ?_
 refine wp_symQ hS hG hK (fun p5=>[.v 21 (.int .i64 (m:Int)),.v 22 (.bool false)]) (fun p5=>[(2,.pointer (some ⟨(p1 0).N,0,none⟩)),(4,.float FloatKind.f32 0),(5,.bool false),(7,.int .i64 (m:Int)),(9,.float .f32 (floatOfInt .f32 (n:Int))),(18,.bool false),(22,.bool false)]) (by kernel_rfl) (fun _ _=>by kernel_rfl) (fun _=>by kernel_rfl) (fun _=>by kernel_rfl) (fun p5=>?_) (fun p5 W5 T hF hK=>?_)
 ·refine ok_v (by kernel_rfl) ?_
  refine ok_vb (decide_eq_false (show ¬ (m:Int) < 0 by omega)) (by kernel_rfl) ?_
  exact ok_nil
 replace hS:=SymF.fb hS hF [0] [⟨(p1 0).N,#[.bool false,.string s,.int .i64 x],25,true⟩] (by kernel_rfl) (by kernel_rfl)
 replace hG:=hF.gx
 clear hF
 have z5:=hS.fr.size
 refine wp_cond_false (hK.ev 22 (by kernel_rfl) _ (by kernel_rfl)) ?_
 refine wp_symG hS hG hK (fun p6=>[.v 28 (.float .f32 (floatOfInt .f32 (n:Int))),.v 29 (.int .i64 (m:Int)),.c (some 30) (cV (.float .f32 p)),.v 31 (.float .f32 z),.v 9 (.float .f32 z)]) (fun p6=>[(2,.pointer (some ⟨(p1 0).N,0,none⟩)),(4,.float FloatKind.f32 0),(5,.bool false),(7,.int .i64 (m:Int)),(9,.float .f32 z),(18,.bool false),(22,.bool false)]) (by kernel_rfl) (fun _ _=>by kernel_rfl) (fun _=>by kernel_rfl) (fun _=>by kernel_rfl) (fun p6=>?_) (fun p6 W6 T hF hK=>?_)
 ·iterate 2 refine ok_v (by kernel_rfl) ?_
  refine ok_c (fun W cx=>as_v (unhide HP _)) (by kernel_rfl) ?_
  refine ok_vr (script_mul (t:=33) hz) (by kernel_rfl) ?_
  refine ok_v (by kernel_rfl) ?_
  exact ok_nil
 replace hS:=SymF.fb hS hF [0] [⟨(p1 0).N,#[.bool false,.string s,.int .i64 x],25,true⟩] (by kernel_rfl) (by kernel_rfl)
 replace hG:=hF.gx
 clear hF
 have z6:=hS.fr.size
 refine then_n ?_
 refine wp_seq ?_
 refine wp_symQ hS hG hK (fun p7=>[.v 32 (.pointer (some ⟨(p1 0).N,0,none⟩)),.l 33 (.bool false) 0 0]) (fun p7=>[(4,.float FloatKind.f32 0),(5,.bool false),(7,.int .i64 (m:Int)),(9,.float .f32 z),(18,.bool false),(22,.bool false),(33,.bool false)]) (by kernel_rfl) (fun _ _=>by kernel_rfl) (fun _=>by kernel_rfl) (fun _=>by kernel_rfl) (fun p7=>?_) (fun p7 W7 T hF hK=>?_)
 ·refine ok_v (by kernel_rfl) ?_
  refine ok_L (by kernel_rfl) (by kernel_rfl) (by kernel_rfl) ?_
  exact ok_nil
 replace hS:=SymF.fb hS hF [] [] (by kernel_rfl) (by kernel_rfl)
 replace hG:=hF.gx
 clear hF
 have z7:=hS.fr.size
 refine wp_cond_false (hK.ev 33 (by kernel_rfl) _ (by kernel_rfl)) ?_
 refine wp_skip ?_
 refine then_n ?_
 refine wp_symQ hS hG hK (fun p8=>[.v 36 (.float .f32 z),.v 4 (.float .f32 z),.v 5 (.bool true)]) (fun p8=>[(4,.float .f32 z),(5,.bool true),(7,.int .i64 (m:Int)),(9,.float .f32 z),(18,.bool false),(22,.bool false),(33,.bool false)]) (by kernel_rfl) (fun _ _=>by kernel_rfl) (fun _=>by kernel_rfl) (fun _=>by kernel_rfl) (fun p8=>?_) (fun p8 W8 T hF hK=>?_)
 ·iterate 3 refine ok_v (by kernel_rfl) ?_
  exact ok_nil
 replace hS:=SymF.fb hS hF [] [] (by kernel_rfl) (by kernel_rfl)
 replace hG:=hF.gx
 clear hF
 have z8:=hS.fr.size
 refine wp_ret ?_
 exact sym_end hS hK (.tuple #[.float .f32 z,.bool true]) [] [] (by kernel_rfl) (by kernel_rfl) ⟨rfl,hS.fr⟩
theorem qreach32 (w:World)   :
  Calls Tryd.prog 20 #[] w fun en w'=>en = .returned (.agg #[.int .u64 16777216,.int .i64 10])∧Below w.heap.size w w':=by
 refine calls_sym Tryd.func20 rfl (by kernel_rfl) fun T hK=>?_
 replace hK:Kn T _ []:=hK
 have hS:=Fb.begin w
 have hG:GsAt [] w:=trivial
 refine wp_symQ hS hG hK (fun p1=>[.n 0 #[.int .u64 0,.int .i64 0] 48]) (fun p1=>[(0,.pointer (some ⟨(p1 0).N,0,none⟩))]) (by kernel_rfl) (fun _ _=>by kernel_rfl) (fun _=>by kernel_rfl) (fun _=>by kernel_rfl) (fun p1=>?_) (fun p1 W1 T hF hK=>?_)
 ·refine ok_n (fun _=>by kernel_rfl) ?_
  exact ok_nil
 replace hS:=SymF.fb hS hF [1000] [⟨(p1 0).N,#[.int .u64 0,.int .i64 0],48,true⟩] (by kernel_rfl) (by kernel_rfl)
 replace hG:=hF.gx
 clear hF
 have z1:=hS.fr.size
 refine wp_symQ hS hG hK (fun p2=>[.v 1 (.agg #[.int .u64 16777216,.int .i64 10]),.p 0 0 [.int .u64 16777216,.int .i64 10]]) (fun p2=>[(0,.pointer (some ⟨(p1 0).N,0,none⟩))]) (by kernel_rfl) (fun _ _=>by kernel_rfl) (fun _=>by kernel_rfl) (fun _=>by kernel_rfl) (fun p2=>?_) (fun p2 W2 T hF hK=>?_)
 ·refine ok_v (by kernel_rfl) ?_
  refine ok_P (by kernel_rfl) (by kernel_rfl) (by kernel_rfl) ?_
  exact ok_nil
 replace hS:=SymF.fb hS hF [0] [⟨(p1 0).N,#[.int .u64 16777216,.int .i64 10],48,true⟩] (by kernel_rfl) (by kernel_rfl)
 replace hG:=hF.gx
 clear hF
 have z2:=hS.fr.size
 refine wp_ret ?_
 exact sym_end hS hK (.agg #[.int .u64 16777216,.int .i64 10]) [(0,0,2)] [.int .u64 16777216,.int .i64 10] (by kernel_rfl) (by kernel_rfl) ⟨rfl,hS.fr⟩
theorem qsingle (w:World) (g:Bool) (s:ByteArray) (x:Int) (z:Nat) (ok:Bool) (HN:Hid (∀ W:World,Calls Tryd.prog 19 #[.agg #[.bool g,.string s,.int .i64 x],.agg #[.int .u64 16777216,.int .i64 10]] W fun e W'=>e = .returned (.tuple #[.float .f32 z,.bool ok])∧Below W.heap.size W W')) :
  Calls Tryd.prog 8 #[.agg #[.bool g,.string s,.int .i64 x]] w fun en w'=>en = .returned (.tuple #[.float .f32 z,.bool ok])∧Below w.heap.size w w':=by
 refine calls_sym Tryd.func8 rfl (by kernel_rfl) fun T hK=>?_
 replace hK:Kn T _ [(0,.agg #[.bool g,.string s,.int .i64 x])]:=hK
 have hS:=Fb.begin w
 have hG:GsAt [] w:=trivial
 refine wp_symQ hS hG hK (fun p1=>[.n 1 #[.bool g,.string s,.int .i64 x] 25,.v 2 (.float FloatKind.f32 0),.v 3 (.bool false)]) (fun p1=>[(1,.pointer (some ⟨(p1 0).N,0,none⟩)),(2,.float FloatKind.f32 0),(3,.bool false)]) (by kernel_rfl) (fun _ _=>by kernel_rfl) (fun _=>by kernel_rfl) (fun _=>by kernel_rfl) (fun p1=>?_) (fun p1 W1 T hF hK=>?_)
 ·refine ok_n (fun _=>by kernel_rfl) ?_
  iterate 2 refine ok_v (by kernel_rfl) ?_
  exact ok_nil
 replace hS:=SymF.fb hS hF [1000] [⟨(p1 0).N,#[.bool g,.string s,.int .i64 x],25,true⟩] (by kernel_rfl) (by kernel_rfl)
 replace hG:=hF.gx
 clear hF
 have z1:=hS.fr.size
 refine wp_symQ hS hG hK (fun p2=>[.l 4 (.agg #[.bool g,.string s,.int .i64 x]) 0 0,.c (some 5) (cV (.agg #[.int .u64 16777216,.int .i64 10])),.c (some 6) (cV (.tuple #[.float .f32 z,.bool ok])),.v 7 (.float .f32 z),.v 8 (.bool ok),.v 2 (.float .f32 z),.v 3 (.bool ok)]) (fun p2=>[(2,.float .f32 z),(3,.bool ok)]) (by kernel_rfl) (fun _ _=>by kernel_rfl) (fun _=>by kernel_rfl) (fun _=>by kernel_rfl) (fun p2=>?_) (fun p2 W2 T hF hK=>?_)
 ·refine ok_L (by kernel_rfl) (by kernel_rfl) (by kernel_rfl) ?_
  refine ok_c (fun W cx=>as_v (qreach32 _)) (by kernel_rfl) ?_
  refine ok_c (fun W cx=>as_v (unhide HN _)) (by kernel_rfl) ?_
  iterate 4 refine ok_v (by kernel_rfl) ?_
  exact ok_nil
 replace hS:=SymF.fb hS hF [] [] (by kernel_rfl) (by kernel_rfl)
 replace hG:=hF.gx
 clear hF
 have z2:=hS.fr.size
 refine wp_ret ?_
 exact sym_end hS hK (.tuple #[.float .f32 z,.bool ok]) [] [] (by kernel_rfl) (by kernel_rfl) ⟨rfl,hS.fr⟩
end Go.Proofs.YtohjmjlfmloiaaaDoor
