/- Of what PowerDigitsRow stands on: PwDigW. -/
import Derived.Test.YteblliofeaahmaaDoorPai
import Derived.Test.YteblliofeaahmaaDoorPaq
namespace Go.Proofs.YteblliofeaahmaaDoor
open Go.RowKit
set_option maxHeartbeats 2000000
set_option maxRecDepth 20000
theorem twoD_is (w:World) (n q r:Nat) (hn:n≤65536) (hb:q≤65536) (hq:n * 5553023288523357132 / 18446744073709551616 = q) (hr:n * 5553023288523357132 % 18446744073709551616 = r) :
  Calls Tryd.prog 33 #[.int .i64 (n:Int)] w fun en w'=>en = .returned (.int .i64 ((q+1:Nat):Int))∧Below w.heap.size w w':=by
 refine calls_sym Tryd.func33 rfl (by kernel_rfl) fun T hK=>?_
 replace hK:Kn T _ [(0,.int .i64 (n:Int))]:=hK
 have hS:=Fb.begin w
 have hG:GsAt [] w:=trivial
 refine wp_symQ hS hG hK (fun p1=>[.v 2 (.int .i64 0)]) (fun p1=>[(0,.int .i64 (n:Int)),(2,.int .i64 0)]) (by kernel_rfl) (fun _ _=>by kernel_rfl) (fun _=>by kernel_rfl) (fun _=>by kernel_rfl) (fun p1=>?_) (fun p1 W1 T hF hK=>?_)
 ·refine ok_v (by kernel_rfl) ?_
  exact ok_nil
 replace hS:=SymF.fb hS hF [] [] (by kernel_rfl) (by kernel_rfl)
 replace hG:=hF.gx
 clear hF
 have z1:=hS.fr.size
 refine wp_symQ hS hG hK (fun p2=>[.v 6 (.int .i64 (n:Int)),.v 7 (.int .u64 (n:Int)),.c (some 8) (cV (.tuple #[.int .u64 (q:Int),.int .u64 (r:Int)])),.v 5 (.tuple #[.int .u64 (q:Int),.int .u64 (r:Int)]),.v 9 (.int .u64 (q:Int)),.v 10 (.int .u64 (r:Int)),.v 3 (.int .u64 (q:Int)),.v 4 (.int .u64 (r:Int))]) (fun p2=>[(2,.int .i64 0),(3,.int .u64 (q:Int))]) (by kernel_rfl) (fun _ _=>by kernel_rfl) (fun _=>by kernel_rfl) (fun _=>by kernel_rfl) (fun p2=>?_) (fun p2 W2 T hF hK=>?_)
 ·refine ok_v (by kernel_rfl) ?_
  refine ok_vi (wpu (x:=(n:Int)) (by omega) (by omega)) (by kernel_rfl) ?_
  refine ok_c (fun W cx=>as_v (mul64_any n 5553023288523357132 q r (by omega) (by decide) hq hr _)) (by kernel_rfl) ?_
  iterate 5 refine ok_v (by kernel_rfl) ?_
  exact ok_nil
 replace hS:=SymF.fb hS hF [] [] (by kernel_rfl) (by kernel_rfl)
 replace hG:=hF.gx
 clear hF
 have z2:=hS.fr.size
 refine wp_symQ hS hG hK (fun p3=>[.v 11 (.int .u64 (q:Int)),.v 12 (.int .i64 (q:Int)),.v 13 (.int .i64 ((q+1:Nat):Int)),.v 2 (.int .i64 ((q+1:Nat):Int))]) (fun p3=>[(2,.int .i64 ((q+1:Nat):Int))]) (by kernel_rfl) (fun _ _=>by kernel_rfl) (fun _=>by kernel_rfl) (fun _=>by kernel_rfl) (fun p3=>?_) (fun p3 W3 T hF hK=>?_)
 ·refine ok_v (by kernel_rfl) ?_
  refine ok_vi (wr64 (x:=(q:Int)) (by omega) (by omega)) (by kernel_rfl) ?_
  refine ok_vi ((wr64 (x:=(q:Int)+1) (by omega) (by omega)).trans (by omega)) (by kernel_rfl) ?_
  refine ok_v (by kernel_rfl) ?_
  exact ok_nil
 replace hS:=SymF.fb hS hF [] [] (by kernel_rfl) (by kernel_rfl)
 replace hG:=hF.gx
 clear hF
 have z3:=hS.fr.size
 refine wp_ret ?_
 exact sym_end hS hK (.int .i64 ((q+1:Nat):Int)) [] [] (by kernel_rfl) (by kernel_rfl) ⟨rfl,hS.fr⟩
theorem ptwo_neg (w:World) (k:Int) (hk:k < 0) :
  Calls Tryd.prog 13 #[.int .i64 k] w fun en w'=>en = .returned (.tuple #[.int .i64 0,.int .i64 2])∧Below w.heap.size w w':=by
 refine calls_sym Tryd.func13 rfl (by kernel_rfl) fun T hK=>?_
 replace hK:Kn T _ [(0,.int .i64 k)]:=hK
 have hS:=Fb.begin w
 have hG:GsAt [] w:=trivial
 refine wp_symQ hS hG hK (fun p1=>[.v 2 (.int .i64 0),.v 3 (.int .i64 0)]) (fun p1=>[(0,.int .i64 k),(2,.int .i64 0),(3,.int .i64 0)]) (by kernel_rfl) (fun _ _=>by kernel_rfl) (fun _=>by kernel_rfl) (fun _=>by kernel_rfl) (fun p1=>?_) (fun p1 W1 T hF hK=>?_)
 ·iterate 2 refine ok_v (by kernel_rfl) ?_
  exact ok_nil
 replace hS:=SymF.fb hS hF [] [] (by kernel_rfl) (by kernel_rfl)
 replace hG:=hF.gx
 clear hF
 have z1:=hS.fr.size
 refine wp_seq ?_
 refine wp_symQ hS hG hK (fun p2=>[.v 4 (.int .i64 k),.v 5 (.bool true),.v 6 (.bool true),.k (some 7),.k (some 8),.v 9 (.bool true)]) (fun p2=>[(0,.int .i64 k),(2,.int .i64 0),(3,.int .i64 0),(9,.bool true)]) (by kernel_rfl) (fun _ _=>by kernel_rfl) (fun _=>by kernel_rfl) (fun _=>by kernel_rfl) (fun p2=>?_) (fun p2 W2 T hF hK=>?_)
 ·refine ok_v (by kernel_rfl) ?_
  refine ok_vb (decide_eq_true (show k < 0 by omega)) (by kernel_rfl) ?_
  refine ok_v (by kernel_rfl) ?_
  iterate 2 refine ok_K (by kernel_rfl) ?_
  refine ok_v (by kernel_rfl) ?_
  exact ok_nil
 replace hS:=SymF.fb hS hF [] [] (by kernel_rfl) (by kernel_rfl)
 replace hG:=hF.gx
 clear hF
 have z2:=hS.fr.size
 refine wp_cond_true (hK.ev 9 (by kernel_rfl) _ (by kernel_rfl)) ?_
 refine wp_symQ hS hG hK (fun p3=>[.v 2 (.int .i64 0),.v 3 (.int .i64 2)]) (fun p3=>[(0,.int .i64 k),(2,.int .i64 0),(3,.int .i64 2),(9,.bool true)]) (by kernel_rfl) (fun _ _=>by kernel_rfl) (fun _=>by kernel_rfl) (fun _=>by kernel_rfl) (fun p3=>?_) (fun p3 W3 T hF hK=>?_)
 ·iterate 2 refine ok_v (by kernel_rfl) ?_
  exact ok_nil
 replace hS:=SymF.fb hS hF [] [] (by kernel_rfl) (by kernel_rfl)
 replace hG:=hF.gx
 clear hF
 have z3:=hS.fr.size
 refine wp_ret ?_
 refine then_r ?_
 exact sym_end hS hK (.tuple #[.int .i64 0,.int .i64 2]) [] [] (by kernel_rfl) (by kernel_rfl) ⟨rfl,hS.fr⟩
theorem ptwo_big (w:World) (k:Int) (hk:65536 < k) :
  Calls Tryd.prog 13 #[.int .i64 k] w fun en w'=>en = .returned (.tuple #[.int .i64 0,.int .i64 2])∧Below w.heap.size w w':=by
 refine calls_sym Tryd.func13 rfl (by kernel_rfl) fun T hK=>?_
 replace hK:Kn T _ [(0,.int .i64 k)]:=hK
 have hS:=Fb.begin w
 have hG:GsAt [] w:=trivial
 refine wp_symQ hS hG hK (fun p1=>[.v 2 (.int .i64 0),.v 3 (.int .i64 0)]) (fun p1=>[(0,.int .i64 k),(2,.int .i64 0),(3,.int .i64 0)]) (by kernel_rfl) (fun _ _=>by kernel_rfl) (fun _=>by kernel_rfl) (fun _=>by kernel_rfl) (fun p1=>?_) (fun p1 W1 T hF hK=>?_)
 ·iterate 2 refine ok_v (by kernel_rfl) ?_
  exact ok_nil
 replace hS:=SymF.fb hS hF [] [] (by kernel_rfl) (by kernel_rfl)
 replace hG:=hF.gx
 clear hF
 have z1:=hS.fr.size
 refine wp_seq ?_
 refine wp_symQ hS hG hK (fun p2=>[.v 4 (.int .i64 k),.v 5 (.bool false),.v 6 (.bool false),.v 7 (.int .i64 k),.v 8 (.bool true),.v 9 (.bool true)]) (fun p2=>[(0,.int .i64 k),(2,.int .i64 0),(3,.int .i64 0),(9,.bool true)]) (by kernel_rfl) (fun _ _=>by kernel_rfl) (fun _=>by kernel_rfl) (fun _=>by kernel_rfl) (fun p2=>?_) (fun p2 W2 T hF hK=>?_)
 ·refine ok_v (by kernel_rfl) ?_
  refine ok_vb (decide_eq_false (show ¬ k < 0 by omega)) (by kernel_rfl) ?_
  iterate 2 refine ok_v (by kernel_rfl) ?_
  refine ok_vb (decide_eq_true (show k > 65536 by omega)) (by kernel_rfl) ?_
  refine ok_v (by kernel_rfl) ?_
  exact ok_nil
 replace hS:=SymF.fb hS hF [] [] (by kernel_rfl) (by kernel_rfl)
 replace hG:=hF.gx
 clear hF
 have z2:=hS.fr.size
 refine wp_cond_true (hK.ev 9 (by kernel_rfl) _ (by kernel_rfl)) ?_
 refine wp_symQ hS hG hK (fun p3=>[.v 2 (.int .i64 0),.v 3 (.int .i64 2)]) (fun p3=>[(0,.int .i64 k),(2,.int .i64 0),(3,.int .i64 2),(9,.bool true)]) (by kernel_rfl) (fun _ _=>by kernel_rfl) (fun _=>by kernel_rfl) (fun _=>by kernel_rfl) (fun p3=>?_) (fun p3 W3 T hF hK=>?_)
 ·iterate 2 refine ok_v (by kernel_rfl) ?_
  exact ok_nil
 replace hS:=SymF.fb hS hF [] [] (by kernel_rfl) (by kernel_rfl)
 replace hG:=hF.gx
 clear hF
 have z3:=hS.fr.size
 refine wp_ret ?_
 refine then_r ?_
 exact sym_end hS hK (.tuple #[.int .i64 0,.int .i64 2]) [] [] (by kernel_rfl) (by kernel_rfl) ⟨rfl,hS.fr⟩
theorem rtwo_neg (w:World) (k:Int) (hk:k < 0) :
  Calls Tryd.prog 14 #[.int .i64 k] w fun en w'=>en = .returned (.tuple #[.int .i64 0,.int .i64 2])∧Below w.heap.size w w':=by
 refine calls_sym Tryd.func14 rfl (by kernel_rfl) fun T hK=>?_
 replace hK:Kn T _ [(0,.int .i64 k)]:=hK
 have hS:=Fb.begin w
 have hG:GsAt [] w:=trivial
 refine wp_symQ hS hG hK (fun p1=>[.v 2 (.int .i64 0),.v 3 (.int .i64 0)]) (fun p1=>[(0,.int .i64 k),(2,.int .i64 0),(3,.int .i64 0)]) (by kernel_rfl) (fun _ _=>by kernel_rfl) (fun _=>by kernel_rfl) (fun _=>by kernel_rfl) (fun p1=>?_) (fun p1 W1 T hF hK=>?_)
 ·iterate 2 refine ok_v (by kernel_rfl) ?_
  exact ok_nil
 replace hS:=SymF.fb hS hF [] [] (by kernel_rfl) (by kernel_rfl)
 replace hG:=hF.gx
 clear hF
 have z1:=hS.fr.size
 refine wp_seq ?_
 refine wp_symQ hS hG hK (fun p2=>[.v 8 (.int .i64 k),.v 9 (.bool true),.v 10 (.bool true),.k (some 11),.k (some 12),.v 13 (.bool true)]) (fun p2=>[(0,.int .i64 k),(2,.int .i64 0),(3,.int .i64 0),(13,.bool true)]) (by kernel_rfl) (fun _ _=>by kernel_rfl) (fun _=>by kernel_rfl) (fun _=>by kernel_rfl) (fun p2=>?_) (fun p2 W2 T hF hK=>?_)
 ·refine ok_v (by kernel_rfl) ?_
  refine ok_vb (decide_eq_true (show k < 0 by omega)) (by kernel_rfl) ?_
  refine ok_v (by kernel_rfl) ?_
  iterate 2 refine ok_K (by kernel_rfl) ?_
  refine ok_v (by kernel_rfl) ?_
  exact ok_nil
 replace hS:=SymF.fb hS hF [] [] (by kernel_rfl) (by kernel_rfl)
 replace hG:=hF.gx
 clear hF
 have z2:=hS.fr.size
 refine wp_cond_true (hK.ev 13 (by kernel_rfl) _ (by kernel_rfl)) ?_
 refine wp_symQ hS hG hK (fun p3=>[.v 2 (.int .i64 0),.v 3 (.int .i64 2)]) (fun p3=>[(0,.int .i64 k),(2,.int .i64 0),(3,.int .i64 2),(13,.bool true)]) (by kernel_rfl) (fun _ _=>by kernel_rfl) (fun _=>by kernel_rfl) (fun _=>by kernel_rfl) (fun p3=>?_) (fun p3 W3 T hF hK=>?_)
 ·iterate 2 refine ok_v (by kernel_rfl) ?_
  exact ok_nil
 replace hS:=SymF.fb hS hF [] [] (by kernel_rfl) (by kernel_rfl)
 replace hG:=hF.gx
 clear hF
 have z3:=hS.fr.size
 refine wp_ret ?_
 refine then_r ?_
 exact sym_end hS hK (.tuple #[.int .i64 0,.int .i64 2]) [] [] (by kernel_rfl) (by kernel_rfl) ⟨rfl,hS.fr⟩
theorem rtwo_big (w:World) (k:Int) (hk:65536 < k) :
  Calls Tryd.prog 14 #[.int .i64 k] w fun en w'=>en = .returned (.tuple #[.int .i64 0,.int .i64 2])∧Below w.heap.size w w':=by
 refine calls_sym Tryd.func14 rfl (by kernel_rfl) fun T hK=>?_
 replace hK:Kn T _ [(0,.int .i64 k)]:=hK
 have hS:=Fb.begin w
 have hG:GsAt [] w:=trivial
 refine wp_symQ hS hG hK (fun p1=>[.v 2 (.int .i64 0),.v 3 (.int .i64 0)]) (fun p1=>[(0,.int .i64 k),(2,.int .i64 0),(3,.int .i64 0)]) (by kernel_rfl) (fun _ _=>by kernel_rfl) (fun _=>by kernel_rfl) (fun _=>by kernel_rfl) (fun p1=>?_) (fun p1 W1 T hF hK=>?_)
 ·iterate 2 refine ok_v (by kernel_rfl) ?_
  exact ok_nil
 replace hS:=SymF.fb hS hF [] [] (by kernel_rfl) (by kernel_rfl)
 replace hG:=hF.gx
 clear hF
 have z1:=hS.fr.size
 refine wp_seq ?_
 refine wp_symQ hS hG hK (fun p2=>[.v 8 (.int .i64 k),.v 9 (.bool false),.v 10 (.bool false),.v 11 (.int .i64 k),.v 12 (.bool true),.v 13 (.bool true)]) (fun p2=>[(0,.int .i64 k),(2,.int .i64 0),(3,.int .i64 0),(13,.bool true)]) (by kernel_rfl) (fun _ _=>by kernel_rfl) (fun _=>by kernel_rfl) (fun _=>by kernel_rfl) (fun p2=>?_) (fun p2 W2 T hF hK=>?_)
 ·refine ok_v (by kernel_rfl) ?_
  refine ok_vb (decide_eq_false (show ¬ k < 0 by omega)) (by kernel_rfl) ?_
  iterate 2 refine ok_v (by kernel_rfl) ?_
  refine ok_vb (decide_eq_true (show k > 65536 by omega)) (by kernel_rfl) ?_
  refine ok_v (by kernel_rfl) ?_
  exact ok_nil
 replace hS:=SymF.fb hS hF [] [] (by kernel_rfl) (by kernel_rfl)
 replace hG:=hF.gx
 clear hF
 have z2:=hS.fr.size
 refine wp_cond_true (hK.ev 13 (by kernel_rfl) _ (by kernel_rfl)) ?_
 refine wp_symQ hS hG hK (fun p3=>[.v 2 (.int .i64 0),.v 3 (.int .i64 2)]) (fun p3=>[(0,.int .i64 k),(2,.int .i64 0),(3,.int .i64 2),(13,.bool true)]) (by kernel_rfl) (fun _ _=>by kernel_rfl) (fun _=>by kernel_rfl) (fun _=>by kernel_rfl) (fun p3=>?_) (fun p3 W3 T hF hK=>?_)
 ·iterate 2 refine ok_v (by kernel_rfl) ?_
  exact ok_nil
 replace hS:=SymF.fb hS hF [] [] (by kernel_rfl) (by kernel_rfl)
 replace hG:=hF.gx
 clear hF
 have z3:=hS.fr.size
 refine wp_ret ?_
 refine then_r ?_
 exact sym_end hS hK (.tuple #[.int .i64 0,.int .i64 2]) [] [] (by kernel_rfl) (by kernel_rfl) ⟨rfl,hS.fr⟩
theorem ptwo_in (w:World) (n d:Nat) (hn:n≤65536) (HT:Hid (∀ W:World,Calls Tryd.prog 33 #[.int .i64 (n:Int)] W fun e W'=>e = .returned (.int .i64 (d:Int))∧Below W.heap.size W W')) :
  Calls Tryd.prog 13 #[.int .i64 (n:Int)] w fun en w'=>en = .returned (.tuple #[.int .i64 (d:Int),.int .i64 0])∧Below w.heap.size w w':=by
 refine calls_sym Tryd.func13 rfl (by kernel_rfl) fun T hK=>?_
 replace hK:Kn T _ [(0,.int .i64 (n:Int))]:=hK
 have hS:=Fb.begin w
 have hG:GsAt [] w:=trivial
 refine wp_symQ hS hG hK (fun p1=>[.v 2 (.int .i64 0),.v 3 (.int .i64 0)]) (fun p1=>[(0,.int .i64 (n:Int)),(2,.int .i64 0),(3,.int .i64 0)]) (by kernel_rfl) (fun _ _=>by kernel_rfl) (fun _=>by kernel_rfl) (fun _=>by kernel_rfl) (fun p1=>?_) (fun p1 W1 T hF hK=>?_)
 ·iterate 2 refine ok_v (by kernel_rfl) ?_
  exact ok_nil
 replace hS:=SymF.fb hS hF [] [] (by kernel_rfl) (by kernel_rfl)
 replace hG:=hF.gx
 clear hF
 have z1:=hS.fr.size
 refine wp_seq ?_
 refine wp_symQ hS hG hK (fun p2=>[.v 4 (.int .i64 (n:Int)),.v 5 (.bool false),.v 6 (.bool false),.v 7 (.int .i64 (n:Int)),.v 8 (.bool false),.v 9 (.bool false)]) (fun p2=>[(0,.int .i64 (n:Int)),(2,.int .i64 0),(3,.int .i64 0),(9,.bool false)]) (by kernel_rfl) (fun _ _=>by kernel_rfl) (fun _=>by kernel_rfl) (fun _=>by kernel_rfl) (fun p2=>?_) (fun p2 W2 T hF hK=>?_)
 ·refine ok_v (by kernel_rfl) ?_
  refine ok_vb (decide_eq_false (show ¬ (n:Int) < 0 by omega)) (by kernel_rfl) ?_
  iterate 2 refine ok_v (by kernel_rfl) ?_
  refine ok_vb (decide_eq_false (show ¬ (n:Int) > 65536 by omega)) (by kernel_rfl) ?_
  refine ok_v (by kernel_rfl) ?_
  exact ok_nil
 replace hS:=SymF.fb hS hF [] [] (by kernel_rfl) (by kernel_rfl)
 replace hG:=hF.gx
 clear hF
 have z2:=hS.fr.size
 refine wp_cond_false (hK.ev 9 (by kernel_rfl) _ (by kernel_rfl)) ?_
 refine wp_skip ?_
 refine then_n ?_
 refine wp_symQ hS hG hK (fun p3=>[.v 10 (.int .i64 (n:Int)),.c (some 11) (cV (.int .i64 (d:Int))),.v 2 (.int .i64 (d:Int)),.v 3 (.int .i64 0)]) (fun p3=>[(2,.int .i64 (d:Int)),(3,.int .i64 0),(9,.bool false)]) (by kernel_rfl) (fun _ _=>by kernel_rfl) (fun _=>by kernel_rfl) (fun _=>by kernel_rfl) (fun p3=>?_) (fun p3 W3 T hF hK=>?_)
 ·refine ok_v (by kernel_rfl) ?_
  refine ok_c (fun W cx=>as_v (unhide HT _)) (by kernel_rfl) ?_
  iterate 2 refine ok_v (by kernel_rfl) ?_
  exact ok_nil
 replace hS:=SymF.fb hS hF [] [] (by kernel_rfl) (by kernel_rfl)
 replace hG:=hF.gx
 clear hF
 have z3:=hS.fr.size
 refine wp_ret ?_
 exact sym_end hS hK (.tuple #[.int .i64 (d:Int),.int .i64 0]) [] [] (by kernel_rfl) (by kernel_rfl) ⟨rfl,hS.fr⟩
theorem rtwo_in (w:World) (n m:Nat) (t:ByteArray) (hn:n≤65536) (HU:Hid (∀ (W:World) (a:Option Addr) (j c:Nat),Num W a j 1→Calls Tryd.prog 29 #[.agg #[.slice a j c],.int .i64 (n:Int)] W fun en W'=>(∃ a n c,en = .returned (.tuple #[.agg #[.slice a n c],.int .i64 0])∧Mine W' W.heap.size a n c m)∧Below W.heap.size W W')) (HX:Hid (∀ (W:World) (a:Option Addr) (n c:Nat),Num W a n m→Calls Tryd.prog 34 #[.agg #[.slice a n c]] W fun en W'=>en = .returned (.tuple #[.string t,.int .i64 0])∧Below W.heap.size W W')) :
  Calls Tryd.prog 14 #[.int .i64 (n:Int)] w fun en w'=>en = .returned (.tuple #[.int .i64 (t.size:Int),.int .i64 0])∧Below w.heap.size w w':=by
 refine calls_sym Tryd.func14 rfl (by kernel_rfl) fun T hK=>?_
 replace hK:Kn T _ [(0,.int .i64 (n:Int))]:=hK
 have hS:=Fb.begin w
 have hG:GsAt [] w:=trivial
 refine wp_symQ hS hG hK (fun p1=>[.v 2 (.int .i64 0),.v 3 (.int .i64 0)]) (fun p1=>[(0,.int .i64 (n:Int)),(2,.int .i64 0),(3,.int .i64 0)]) (by kernel_rfl) (fun _ _=>by kernel_rfl) (fun _=>by kernel_rfl) (fun _=>by kernel_rfl) (fun p1=>?_) (fun p1 W1 T hF hK=>?_)
 ·iterate 2 refine ok_v (by kernel_rfl) ?_
  exact ok_nil
 replace hS:=SymF.fb hS hF [] [] (by kernel_rfl) (by kernel_rfl)
 replace hG:=hF.gx
 clear hF
 have z1:=hS.fr.size
 refine wp_seq ?_
 refine wp_symQ hS hG hK (fun p2=>[.v 8 (.int .i64 (n:Int)),.v 9 (.bool false),.v 10 (.bool false),.v 11 (.int .i64 (n:Int)),.v 12 (.bool false),.v 13 (.bool false)]) (fun p2=>[(0,.int .i64 (n:Int)),(2,.int .i64 0),(3,.int .i64 0),(13,.bool false)]) (by kernel_rfl) (fun _ _=>by kernel_rfl) (fun _=>by kernel_rfl) (fun _=>by kernel_rfl) (fun p2=>?_) (fun p2 W2 T hF hK=>?_)
 ·refine ok_v (by kernel_rfl) ?_
  refine ok_vb (decide_eq_false (show ¬ (n:Int) < 0 by omega)) (by kernel_rfl) ?_
  iterate 2 refine ok_v (by kernel_rfl) ?_
  refine ok_vb (decide_eq_false (show ¬ (n:Int) > 65536 by omega)) (by kernel_rfl) ?_
  refine ok_v (by kernel_rfl) ?_
  exact ok_nil
 replace hS:=SymF.fb hS hF [] [] (by kernel_rfl) (by kernel_rfl)
 replace hG:=hF.gx
 clear hF
 have z2:=hS.fr.size
 refine wp_cond_false (hK.ev 13 (by kernel_rfl) _ (by kernel_rfl)) ?_
 refine wp_skip ?_
 refine then_n ?_
 refine wp_symQ hS hG hK (fun p3=>[.c (some 15) (cN W2.heap.size 1),.v 16 (.int .i64 (n:Int)),.c (some 17) (cO W2.heap.size m),.v 14 (.tuple #[.agg #[.slice (p3 2).A (p3 2).N (p3 2).C],.int .i64 0]),.v 18 (.agg #[.slice (p3 2).A (p3 2).N (p3 2).C]),.v 19 (.int .i64 0),.n 4 #[.slice none 0 0] 65,.p 1006 0 [.slice (p3 2).A (p3 2).N (p3 2).C],.v 5 (.int .i64 0)]) (fun p3=>[(2,.int .i64 0),(3,.int .i64 0),(4,.pointer (some ⟨(p3 6).N,0,none⟩)),(13,.bool false)]) (by kernel_rfl) (fun _ _=>by kernel_rfl) (fun _=>by kernel_rfl) (fun _=>by kernel_rfl) (fun p3=>?_) (fun p3 W3 T hF hK=>?_)
 ·refine ok_c (fun W cx=>as_n cx.hb (rof_any 1 _ (by omega))) (by kernel_rfl) ?_
  refine ok_v (by kernel_rfl) ?_
  refine ok_c (fun W cx=>as_o cx.hb (unhide HU _ _ _ (p3 0).C (Mine.num (cx.F 0 (by kernel_rfl))))) (by kernel_rfl) ?_
  iterate 3 refine ok_v (by kernel_rfl) ?_
  refine ok_n (fun _=>by kernel_rfl) ?_
  refine ok_P (by kernel_rfl) (by kernel_rfl) (by kernel_rfl) ?_
  refine ok_v (by kernel_rfl) ?_
  exact ok_nil
 replace hS:=SymF.fb hS hF [1006] [⟨(p3 6).N,#[.slice (p3 2).A (p3 2).N (p3 2).C],65,true⟩] (by kernel_rfl) (by kernel_rfl)
 replace hG:GsAt (gM W2.heap.size (p3 0).A (p3 0).N (p3 0).C 1 :: gM W2.heap.size (p3 2).A (p3 2).N (p3 2).C m :: _) W3:=⟨hF.fx 0,hF.fx 2,hF.gx⟩
 clear hF
 have z3:=hS.fr.size
 refine wp_symQ hS hG hK (fun p4=>[.l 21 (.agg #[.slice (p3 2).A (p3 2).N (p3 2).C]) 0 0,.c (some 22) (cV (.tuple #[.string t,.int .i64 0])),.v 20 (.tuple #[.string t,.int .i64 0]),.v 23 (.string t),.v 24 (.int .i64 0),.v 6 (.string t),.v 7 (.int .i64 0)]) (fun p4=>[(2,.int .i64 0),(3,.int .i64 0),(6,.string t),(13,.bool false)]) (by kernel_rfl) (fun _ _=>by kernel_rfl) (fun _=>by kernel_rfl) (fun _=>by kernel_rfl) (fun p4=>?_) (fun p4 W4 T hF hK=>?_)
 ·refine ok_L (by kernel_rfl) (by kernel_rfl) (by kernel_rfl) ?_
  refine ok_c (fun W cx=>as_v (unhide HX _ _ _ (p3 2).C (Mine.num cx.G.2.1))) (by kernel_rfl) ?_
  iterate 5 refine ok_v (by kernel_rfl) ?_
  exact ok_nil
 replace hS:=SymF.fb hS hF [] [] (by kernel_rfl) (by kernel_rfl)
 replace hG:=hF.gx
 clear hF
 have z4:=hS.fr.size
 refine wp_symQ hS hG hK (fun p5=>[.v 25 (.string t),.v 26 (.int .i64 (t.size:Int)),.v 2 (.int .i64 (t.size:Int)),.v 3 (.int .i64 0)]) (fun p5=>[(2,.int .i64 (t.size:Int)),(3,.int .i64 0),(13,.bool false)]) (by kernel_rfl) (fun _ _=>by kernel_rfl) (fun _=>by kernel_rfl) (fun _=>by kernel_rfl) (fun p5=>?_) (fun p5 W5 T hF hK=>?_)
 ·iterate 4 refine ok_v (by kernel_rfl) ?_
  exact ok_nil
 replace hS:=SymF.fb hS hF [] [] (by kernel_rfl) (by kernel_rfl)
 replace hG:=hF.gx
 clear hF
 have z5:=hS.fr.size
 refine wp_ret ?_
 exact sym_end hS hK (.tuple #[.int .i64 (t.size:Int),.int .i64 0]) [] [] (by kernel_rfl) (by kernel_rfl) ⟨rfl,hS.fr⟩
theorem rdig_is (w:World) (u:Nat) (t:ByteArray) (hu:u < 18446744073709551616) (HX:Hid (∀ (W:World) (a:Option Addr) (n c:Nat),Num W a n u→Calls Tryd.prog 34 #[.agg #[.slice a n c]] W fun en W'=>en = .returned (.tuple #[.string t,.int .i64 0])∧Below W.heap.size W W')) :
  Calls Tryd.prog 16 #[.int .u64 (u:Int)] w fun en w'=>en = .returned (.int .i64 (t.size:Int))∧Below w.heap.size w w':=by
 refine calls_sym Tryd.func16 rfl (by kernel_rfl) fun T hK=>?_
 replace hK:Kn T _ [(0,.int .u64 (u:Int))]:=hK
 have hS:=Fb.begin w
 have hG:GsAt [] w:=trivial
 refine wp_symQ hS hG hK (fun p1=>[.v 2 (.int .i64 0)]) (fun p1=>[(0,.int .u64 (u:Int)),(2,.int .i64 0)]) (by kernel_rfl) (fun _ _=>by kernel_rfl) (fun _=>by kernel_rfl) (fun _=>by kernel_rfl) (fun p1=>?_) (fun p1 W1 T hF hK=>?_)
 ·refine ok_v (by kernel_rfl) ?_
  exact ok_nil
 replace hS:=SymF.fb hS hF [] [] (by kernel_rfl) (by kernel_rfl)
 replace hG:=hF.gx
 clear hF
 have z1:=hS.fr.size
 refine wp_symQ hS hG hK (fun p2=>[.v 6 (.int .u64 (u:Int)),.c (some 7) (cN W1.heap.size u),.c (some 8) (cV (.tuple #[.string t,.int .i64 0])),.v 5 (.tuple #[.string t,.int .i64 0]),.v 9 (.string t),.v 10 (.int .i64 0),.v 3 (.string t),.v 4 (.int .i64 0)]) (fun p2=>[(2,.int .i64 0),(3,.string t)]) (by kernel_rfl) (fun _ _=>by kernel_rfl) (fun _=>by kernel_rfl) (fun _=>by kernel_rfl) (fun p2=>?_) (fun p2 W2 T hF hK=>?_)
 ·refine ok_v (by kernel_rfl) ?_
  refine ok_c (fun W cx=>as_n cx.hb (rof_any u _ (by omega))) (by kernel_rfl) ?_
  refine ok_c (fun W cx=>as_v (unhide HX _ _ _ (p2 1).C (Mine.num (cx.F 1 (by kernel_rfl))))) (by kernel_rfl) ?_
  iterate 5 refine ok_v (by kernel_rfl) ?_
  exact ok_nil
 replace hS:=SymF.fb hS hF [] [] (by kernel_rfl) (by kernel_rfl)
 replace hG:GsAt (gM W1.heap.size (p2 1).A (p2 1).N (p2 1).C u :: _) W2:=⟨hF.fx 1,hF.gx⟩
 clear hF
 have z2:=hS.fr.size
 refine wp_symQ hS hG hK (fun p3=>[.v 11 (.string t),.v 12 (.int .i64 (t.size:Int)),.v 2 (.int .i64 (t.size:Int))]) (fun p3=>[(2,.int .i64 (t.size:Int))]) (by kernel_rfl) (fun _ _=>by kernel_rfl) (fun _=>by kernel_rfl) (fun _=>by kernel_rfl) (fun p3=>?_) (fun p3 W3 T hF hK=>?_)
 ·iterate 3 refine ok_v (by kernel_rfl) ?_
  exact ok_nil
 replace hS:=SymF.fb hS hF [] [] (by kernel_rfl) (by kernel_rfl)
 replace hG:=hF.gx
 clear hF
 have z3:=hS.fr.size
 refine wp_ret ?_
 exact sym_end hS hK (.int .i64 (t.size:Int)) [] [] (by kernel_rfl) (by kernel_rfl) ⟨rfl,hS.fr⟩
theorem pdig_t (w:World) (u s j d t:Nat) (hT:Fv w) (hs:s < 18446744073709551616) (ho:Go.bits .or .u64 (u:Int) 1 = (s:Int)) (hl:Lib.bitLen s = j+1) (hj:j < 64) (hd:d≤19) (ht:10 ^ d = t) (hc:t≤s) (HT:Hid (∀ W:World,Calls Tryd.prog 33 #[.int .i64 (j:Int)] W fun e W'=>e = .returned (.int .i64 (d:Int))∧Below W.heap.size W W')) :
  Calls Tryd.prog 15 #[.int .u64 (u:Int)] w fun en w'=>en = .returned (.int .i64 ((d+1:Nat):Int))∧Below w.heap.size w w':=by
 refine calls_sym Tryd.func15 rfl (by kernel_rfl) fun T hK=>?_
 replace hK:Kn T _ [(0,.int .u64 (u:Int))]:=hK
 have hS:=Fb.begin w
 have hG:GsAt [] w:=trivial
 refine wp_symQ hS hG hK (fun p1=>[.v 2 (.int .i64 0)]) (fun p1=>[(0,.int .u64 (u:Int)),(2,.int .i64 0)]) (by kernel_rfl) (fun _ _=>by kernel_rfl) (fun _=>by kernel_rfl) (fun _=>by kernel_rfl) (fun p1=>?_) (fun p1 W1 T hF hK=>?_)
 ·refine ok_v (by kernel_rfl) ?_
  exact ok_nil
 replace hS:=SymF.fb hS hF [] [] (by kernel_rfl) (by kernel_rfl)
 replace hG:=hF.gx
 clear hF
 have z1:=hS.fr.size
 refine wp_symQ hS hG hK (fun p2=>[.v 5 (.int .u64 (u:Int)),.v 6 (.int .u64 (s:Int)),.v 3 (.int .u64 (s:Int))]) (fun p2=>[(2,.int .i64 0),(3,.int .u64 (s:Int))]) (by kernel_rfl) (fun _ _=>by kernel_rfl) (fun _=>by kernel_rfl) (fun _=>by kernel_rfl) (fun p2=>?_) (fun p2 W2 T hF hK=>?_)
 ·refine ok_v (by kernel_rfl) ?_
  refine ok_vi (ho) (by kernel_rfl) ?_
  refine ok_v (by kernel_rfl) ?_
  exact ok_nil
 replace hS:=SymF.fb hS hF [] [] (by kernel_rfl) (by kernel_rfl)
 replace hG:=hF.gx
 clear hF
 have z2:=hS.fr.size
 refine wp_symQ hS hG hK (fun p3=>[.v 7 (.int .u64 (s:Int)),.c (some 8) (cV (.int .i64 ((j+1:Nat):Int))),.v 9 (.int .i64 (j:Int)),.c (some 10) (cV (.int .i64 (d:Int))),.v 4 (.int .i64 (d:Int))]) (fun p3=>[(2,.int .i64 0),(3,.int .u64 (s:Int)),(4,.int .i64 (d:Int))]) (by kernel_rfl) (fun _ _=>by kernel_rfl) (fun _=>by kernel_rfl) (fun _=>by kernel_rfl) (fun p3=>?_) (fun p3 W3 T hF hK=>?_)
 ·refine ok_v (by kernel_rfl) ?_
  refine ok_c (fun W cx=>as_v (len64_nat s (j+1) _ hs hl)) (by kernel_rfl) ?_
  refine ok_vi ((wr64 (x:=((j+1:Nat):Int) - 1) (by omega) (by omega)).trans (by omega)) (by kernel_rfl) ?_
  refine ok_c (fun W cx=>as_v (unhide HT _)) (by kernel_rfl) ?_
  refine ok_v (by kernel_rfl) ?_
  exact ok_nil
 replace hS:=SymF.fb hS hF [] [] (by kernel_rfl) (by kernel_rfl)
 replace hG:=hF.gx
 clear hF
 have z3:=hS.fr.size
 refine wp_seq ?_
 refine wp_symQ hS hG hK (fun p4=>[.v 11 (.int .u64 (s:Int)),.v 12 (.int .i64 (d:Int)),.v 13 (.pointer (some ⟨0,d,none⟩)),.g 14 (.int .u64 ((5 ^ d:Nat):Int)) [.int .u64 ((5 ^ d:Nat):Int)] [.ld ⟨0,d,none⟩ (.int .u64 ((5 ^ d:Nat):Int))],.v 15 (.int .i64 (d:Int)),.v 16 (.int .u64 (t:Int)),.v 17 (.bool true)]) (fun p4=>[(2,.int .i64 0),(4,.int .i64 (d:Int)),(17,.bool true)]) (by kernel_rfl) (fun _ _=>by kernel_rfl) (fun _=>by kernel_rfl) (fun _=>by kernel_rfl) (fun p4=>?_) (fun p4 W4 T hF hK=>?_)
 ·iterate 2 refine ok_v (by kernel_rfl) ?_
  refine ok_vr (script_iarr (t:=83) (len:=28) (el:=22) (by kernel_rfl) (fun _=>by kernel_rfl) rfl (by omega)) (by kernel_rfl) ?_
  refine ok_g (fun W cx=>⟨⟨(hT.kept cx.fr).2 d (by omega),trivial⟩,rfl⟩) (by kernel_rfl) ?_
  refine ok_v (by kernel_rfl) ?_
  refine ok_vi (shl_ten hd ht) (by kernel_rfl) ?_
  refine ok_vb (decide_eq_true (show (s:Int) ≥ (t:Int) by omega)) (by kernel_rfl) ?_
  exact ok_nil
 replace hS:=SymF.fb hS hF [] [] (by kernel_rfl) (by kernel_rfl)
 replace hG:=hF.gx
 clear hF
 have z4:=hS.fr.size
 refine wp_cond_true (hK.ev 17 (by kernel_rfl) _ (by kernel_rfl)) ?_
 refine wp_symQ hS hG hK (fun p5=>[.v 18 (.int .i64 (d:Int)),.v 19 (.int .i64 ((d+1:Nat):Int)),.v 2 (.int .i64 ((d+1:Nat):Int))]) (fun p5=>[(2,.int .i64 ((d+1:Nat):Int)),(4,.int .i64 (d:Int)),(17,.bool true)]) (by kernel_rfl) (fun _ _=>by kernel_rfl) (fun _=>by kernel_rfl) (fun _=>by kernel_rfl) (fun p5=>?_) (fun p5 W5 T hF hK=>?_)
 ·refine ok_v (by kernel_rfl) ?_
  refine ok_vi ((wr64 (x:=(d:Int)+1) (by omega) (by omega)).trans (by omega)) (by kernel_rfl) ?_
  refine ok_v (by kernel_rfl) ?_
  exact ok_nil
 replace hS:=SymF.fb hS hF [] [] (by kernel_rfl) (by kernel_rfl)
 replace hG:=hF.gx
 clear hF
 have z5:=hS.fr.size
 refine wp_ret ?_
 refine then_r ?_
 exact sym_end hS hK (.int .i64 ((d+1:Nat):Int)) [] [] (by kernel_rfl) (by kernel_rfl) ⟨rfl,hS.fr⟩
theorem pdig_f (w:World) (u s j d t:Nat) (hT:Fv w) (hs:s < 18446744073709551616) (ho:Go.bits .or .u64 (u:Int) 1 = (s:Int)) (hl:Lib.bitLen s = j+1) (hj:j < 64) (hd:d≤19) (ht:10 ^ d = t) (hc:s < t) (HT:Hid (∀ W:World,Calls Tryd.prog 33 #[.int .i64 (j:Int)] W fun e W'=>e = .returned (.int .i64 (d:Int))∧Below W.heap.size W W')) :
  Calls Tryd.prog 15 #[.int .u64 (u:Int)] w fun en w'=>en = .returned (.int .i64 (d:Int))∧Below w.heap.size w w':=by
 refine calls_sym Tryd.func15 rfl (by kernel_rfl) fun T hK=>?_
 replace hK:Kn T _ [(0,.int .u64 (u:Int))]:=hK
 have hS:=Fb.begin w
 have hG:GsAt [] w:=trivial
 refine wp_symQ hS hG hK (fun p1=>[.v 2 (.int .i64 0)]) (fun p1=>[(0,.int .u64 (u:Int)),(2,.int .i64 0)]) (by kernel_rfl) (fun _ _=>by kernel_rfl) (fun _=>by kernel_rfl) (fun _=>by kernel_rfl) (fun p1=>?_) (fun p1 W1 T hF hK=>?_)
 ·refine ok_v (by kernel_rfl) ?_
  exact ok_nil
 replace hS:=SymF.fb hS hF [] [] (by kernel_rfl) (by kernel_rfl)
 replace hG:=hF.gx
 clear hF
 have z1:=hS.fr.size
 refine wp_symQ hS hG hK (fun p2=>[.v 5 (.int .u64 (u:Int)),.v 6 (.int .u64 (s:Int)),.v 3 (.int .u64 (s:Int))]) (fun p2=>[(2,.int .i64 0),(3,.int .u64 (s:Int))]) (by kernel_rfl) (fun _ _=>by kernel_rfl) (fun _=>by kernel_rfl) (fun _=>by kernel_rfl) (fun p2=>?_) (fun p2 W2 T hF hK=>?_)
 ·refine ok_v (by kernel_rfl) ?_
  refine ok_vi (ho) (by kernel_rfl) ?_
  refine ok_v (by kernel_rfl) ?_
  exact ok_nil
 replace hS:=SymF.fb hS hF [] [] (by kernel_rfl) (by kernel_rfl)
 replace hG:=hF.gx
 clear hF
 have z2:=hS.fr.size
 refine wp_symQ hS hG hK (fun p3=>[.v 7 (.int .u64 (s:Int)),.c (some 8) (cV (.int .i64 ((j+1:Nat):Int))),.v 9 (.int .i64 (j:Int)),.c (some 10) (cV (.int .i64 (d:Int))),.v 4 (.int .i64 (d:Int))]) (fun p3=>[(2,.int .i64 0),(3,.int .u64 (s:Int)),(4,.int .i64 (d:Int))]) (by kernel_rfl) (fun _ _=>by kernel_rfl) (fun _=>by kernel_rfl) (fun _=>by kernel_rfl) (fun p3=>?_) (fun p3 W3 T hF hK=>?_)
 ·refine ok_v (by kernel_rfl) ?_
  refine ok_c (fun W cx=>as_v (len64_nat s (j+1) _ hs hl)) (by kernel_rfl) ?_
  refine ok_vi ((wr64 (x:=((j+1:Nat):Int) - 1) (by omega) (by omega)).trans (by omega)) (by kernel_rfl) ?_
  refine ok_c (fun W cx=>as_v (unhide HT _)) (by kernel_rfl) ?_
  refine ok_v (by kernel_rfl) ?_
  exact ok_nil
 replace hS:=SymF.fb hS hF [] [] (by kernel_rfl) (by kernel_rfl)
 replace hG:=hF.gx
 clear hF
 have z3:=hS.fr.size
 refine wp_seq ?_
 refine wp_symQ hS hG hK (fun p4=>[.v 11 (.int .u64 (s:Int)),.v 12 (.int .i64 (d:Int)),.v 13 (.pointer (some ⟨0,d,none⟩)),.g 14 (.int .u64 ((5 ^ d:Nat):Int)) [.int .u64 ((5 ^ d:Nat):Int)] [.ld ⟨0,d,none⟩ (.int .u64 ((5 ^ d:Nat):Int))],.v 15 (.int .i64 (d:Int)),.v 16 (.int .u64 (t:Int)),.v 17 (.bool false)]) (fun p4=>[(2,.int .i64 0),(4,.int .i64 (d:Int)),(17,.bool false)]) (by kernel_rfl) (fun _ _=>by kernel_rfl) (fun _=>by kernel_rfl) (fun _=>by kernel_rfl) (fun p4=>?_) (fun p4 W4 T hF hK=>?_)
 ·iterate 2 refine ok_v (by kernel_rfl) ?_
  refine ok_vr (script_iarr (t:=83) (len:=28) (el:=22) (by kernel_rfl) (fun _=>by kernel_rfl) rfl (by omega)) (by kernel_rfl) ?_
  refine ok_g (fun W cx=>⟨⟨(hT.kept cx.fr).2 d (by omega),trivial⟩,rfl⟩) (by kernel_rfl) ?_
  refine ok_v (by kernel_rfl) ?_
  refine ok_vi (shl_ten hd ht) (by kernel_rfl) ?_
  refine ok_vb (decide_eq_false (show ¬ (s:Int) ≥ (t:Int) by omega)) (by kernel_rfl) ?_
  exact ok_nil
 replace hS:=SymF.fb hS hF [] [] (by kernel_rfl) (by kernel_rfl)
 replace hG:=hF.gx
 clear hF
 have z4:=hS.fr.size
 refine wp_cond_false (hK.ev 17 (by kernel_rfl) _ (by kernel_rfl)) ?_
 refine wp_skip ?_
 refine then_n ?_
 refine wp_symQ hS hG hK (fun p5=>[.v 20 (.int .i64 (d:Int)),.v 2 (.int .i64 (d:Int))]) (fun p5=>[(2,.int .i64 (d:Int)),(4,.int .i64 (d:Int)),(17,.bool false)]) (by kernel_rfl) (fun _ _=>by kernel_rfl) (fun _=>by kernel_rfl) (fun _=>by kernel_rfl) (fun p5=>?_) (fun p5 W5 T hF hK=>?_)
 ·iterate 2 refine ok_v (by kernel_rfl) ?_
  exact ok_nil
 replace hS:=SymF.fb hS hF [] [] (by kernel_rfl) (by kernel_rfl)
 replace hG:=hF.gx
 clear hF
 have z5:=hS.fr.size
 refine wp_ret ?_
 exact sym_end hS hK (.int .i64 (d:Int)) [] [] (by kernel_rfl) (by kernel_rfl) ⟨rfl,hS.fr⟩
theorem digits_walk (w:World) (u:Nat) (k a er d:Int) (hT:Fv w) (H1:Hid (∀ W:World,Calls Tryd.prog 13 #[.int .i64 k] W fun e W'=>e = .returned (.tuple #[.int .i64 a,.int .i64 er])∧Below W.heap.size W W')) (H2:Hid (∀ W:World,Calls Tryd.prog 14 #[.int .i64 k] W fun e W'=>e = .returned (.tuple #[.int .i64 a,.int .i64 er])∧Below W.heap.size W W')) (H3:Hid (∀ W:World,Fv W→Calls Tryd.prog 15 #[.int .u64 (u:Int)] W fun e W'=>e = .returned (.int .i64 d)∧Below W.heap.size W W')) (H4:Hid (∀ W:World,Calls Tryd.prog 16 #[.int .u64 (u:Int)] W fun e W'=>e = .returned (.int .i64 d)∧Below W.heap.size W W')) :
  Calls Tryd.prog 4 #[.int .u64 (u:Int),.int .i64 k] w fun en w'=>en = .returned (.bool true)∧Below w.heap.size w w':=by
 refine calls_sym Tryd.func4 rfl (by kernel_rfl) fun T hK=>?_
 replace hK:Kn T _ [(0,.int .u64 (u:Int)),(1,.int .i64 k)]:=hK
 have hS:=Fb.begin w
 have hG:GsAt [] w:=trivial
 refine wp_symQ hS hG hK (fun p1=>[.v 4 (.bool false)]) (fun p1=>[(0,.int .u64 (u:Int)),(1,.int .i64 k),(4,.bool false)]) (by kernel_rfl) (fun _ _=>by kernel_rfl) (fun _=>by kernel_rfl) (fun _=>by kernel_rfl) (fun p1=>?_) (fun p1 W1 T hF hK=>?_)
 ·refine ok_v (by kernel_rfl) ?_
  exact ok_nil
 replace hS:=SymF.fb hS hF [] [] (by kernel_rfl) (by kernel_rfl)
 replace hG:=hF.gx
 clear hF
 have z1:=hS.fr.size
 refine wp_symQ hS hG hK (fun p2=>[.v 10 (.int .i64 k),.c (some 11) (cV (.tuple #[.int .i64 a,.int .i64 er])),.v 9 (.tuple #[.int .i64 a,.int .i64 er]),.v 12 (.int .i64 a),.v 13 (.int .i64 er),.v 5 (.int .i64 a),.v 6 (.int .i64 er)]) (fun p2=>[(0,.int .u64 (u:Int)),(1,.int .i64 k),(4,.bool false),(5,.int .i64 a),(6,.int .i64 er)]) (by kernel_rfl) (fun _ _=>by kernel_rfl) (fun _=>by kernel_rfl) (fun _=>by kernel_rfl) (fun p2=>?_) (fun p2 W2 T hF hK=>?_)
 ·refine ok_v (by kernel_rfl) ?_
  refine ok_c (fun W cx=>as_v (unhide H1 _)) (by kernel_rfl) ?_
  iterate 5 refine ok_v (by kernel_rfl) ?_
  exact ok_nil
 replace hS:=SymF.fb hS hF [] [] (by kernel_rfl) (by kernel_rfl)
 replace hG:=hF.gx
 clear hF
 have z2:=hS.fr.size
 refine wp_symQ hS hG hK (fun p3=>[.v 15 (.int .i64 k),.c (some 16) (cV (.tuple #[.int .i64 a,.int .i64 er])),.v 14 (.tuple #[.int .i64 a,.int .i64 er]),.v 17 (.int .i64 a),.v 18 (.int .i64 er),.v 7 (.int .i64 a),.v 8 (.int .i64 er)]) (fun p3=>[(0,.int .u64 (u:Int)),(4,.bool false),(5,.int .i64 a),(6,.int .i64 er),(7,.int .i64 a),(8,.int .i64 er)]) (by kernel_rfl) (fun _ _=>by kernel_rfl) (fun _=>by kernel_rfl) (fun _=>by kernel_rfl) (fun p3=>?_) (fun p3 W3 T hF hK=>?_)
 ·refine ok_v (by kernel_rfl) ?_
  refine ok_c (fun W cx=>as_v (unhide H2 _)) (by kernel_rfl) ?_
  iterate 5 refine ok_v (by kernel_rfl) ?_
  exact ok_nil
 replace hS:=SymF.fb hS hF [] [] (by kernel_rfl) (by kernel_rfl)
 replace hG:=hF.gx
 clear hF
 have z3:=hS.fr.size
 refine wp_symQ hS hG hK (fun p4=>[.v 19 (.int .u64 (u:Int)),.c (some 20) (cV (.int .i64 d)),.v 21 (.int .u64 (u:Int)),.c (some 22) (cV (.int .i64 d)),.v 23 (.bool true),.v 24 (.bool true),.v 25 (.int .i64 a),.v 26 (.int .i64 a),.v 27 (.bool true),.v 28 (.bool true),.v 29 (.bool true),.v 30 (.int .i64 er),.v 31 (.int .i64 er),.v 32 (.bool true),.v 33 (.bool true),.v 4 (.bool true)]) (fun p4=>[(4,.bool true)]) (by kernel_rfl) (fun _ _=>by kernel_rfl) (fun _=>by kernel_rfl) (fun _=>by kernel_rfl) (fun p4=>?_) (fun p4 W4 T hF hK=>?_)
 ·refine ok_v (by kernel_rfl) ?_
  refine ok_c (fun W cx=>as_v (unhide H3 _ (hT.kept cx.fr))) (by kernel_rfl) ?_
  refine ok_v (by kernel_rfl) ?_
  refine ok_c (fun W cx=>as_v (unhide H4 _)) (by kernel_rfl) ?_
  refine ok_vb (beq_self_eq_true (d:Int)) (by kernel_rfl) ?_
  iterate 3 refine ok_v (by kernel_rfl) ?_
  refine ok_vb (beq_self_eq_true (a:Int)) (by kernel_rfl) ?_
  iterate 4 refine ok_v (by kernel_rfl) ?_
  refine ok_vb (beq_self_eq_true (er:Int)) (by kernel_rfl) ?_
  iterate 2 refine ok_v (by kernel_rfl) ?_
  exact ok_nil
 replace hS:=SymF.fb hS hF [] [] (by kernel_rfl) (by kernel_rfl)
 replace hG:=hF.gx
 clear hF
 have z4:=hS.fr.size
 refine wp_ret ?_
 exact sym_end hS hK (.bool true) [] [] (by kernel_rfl) (by kernel_rfl) ⟨rfl,hS.fr⟩
end Go.Proofs.YteblliofeaahmaaDoor
