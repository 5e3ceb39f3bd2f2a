/- Of what RoundMirrorRow stands on: SMirW. -/
import Derived.Test.YtbbhlfngjoongaaGreatDoorPbj
namespace Go.Proofs.YtbbhlfngjoongaaGreatDoor
open Go.RowKit
set_option maxHeartbeats 2000000
set_option maxRecDepth 20000
theorem wrux {x:Int} (h1:0≤x) (h2:x < 18446744073709551616):IntKind.u64.wrap x = x:=by rw [IntKind.wrap_u64]; omega
theorem mir_no (w:World) (E F:Int) (md:Nat) (s:Bool) (a b:Option Addr) (n c k l:Nat) (hT:Tb w) (hN:Nb5 w) (H1:Hid (∀ W:World,Below w.heap.size w W→Calls Tryz.prog 12 #[.agg #[.int .i64 E,.int .i64 F],.agg #[.bool s,.slice a n c,.slice b k l]] W fun e W'=>e = .returned (.bool false)∧Below W.heap.size W W')) :
  Calls Tryz.prog 4 #[.agg #[.int .i64 E,.int .i64 F],.agg #[.bool s,.slice a n c,.slice b k l],.int .u8 (md:Int)] w fun en w'=>en = .returned (.bool true)∧Below w.heap.size w w':=by
 refine calls_sym Tryz.func4 rfl (by kernel_rfl) fun T hK=>?_
 replace hK:Kn T _ [(0,.agg #[.int .i64 E,.int .i64 F]),(1,.agg #[.bool s,.slice a n c,.slice b k l]),(2,.int .u8 (md:Int))]:=hK
 have hS:=Fb.begin w
 have hG:GsAt [] w:=trivial
 refine wp_symQ hS hG hK (fun p1=>[.n 3 #[.int .i64 E,.int .i64 F] 23,.n 4 #[.bool s,.slice a n c,.slice b k l] 35,.v 6 (.bool false)]) (fun p1=>[(2,.int .u8 (md:Int)),(3,.pointer (some ⟨(p1 0).N,0,none⟩)),(4,.pointer (some ⟨(p1 1).N,0,none⟩)),(6,.bool false)]) (by kernel_rfl) (fun _ _=>by kernel_rfl) (fun _=>by kernel_rfl) (fun _=>by kernel_rfl) (fun p1=>?_) (fun p1 W1 T hF hK=>?_)
 ·iterate 2 refine ok_n (fun _=>by kernel_rfl) ?_
  refine ok_v (by kernel_rfl) ?_
  exact ok_nil
 replace hS:=SymF.fb hS hF [1000,1001] [⟨(p1 0).N,#[.int .i64 E,.int .i64 F],23,true⟩,⟨(p1 1).N,#[.bool s,.slice a n c,.slice b k l],35,true⟩] (by kernel_rfl) (by kernel_rfl)
 replace hG:=hF.gx
 clear hF
 have z1:=hS.fr.size
 refine wp_symQ hS hG hK (fun p2=>[.c (some 29) (cV (.bool true)),.v 7 (.bool true)]) (fun p2=>[(2,.int .u8 (md:Int)),(3,.pointer (some ⟨(p1 0).N,0,none⟩)),(4,.pointer (some ⟨(p1 1).N,0,none⟩)),(6,.bool false),(7,.bool true)]) (by kernel_rfl) (fun _ _=>by kernel_rfl) (fun _=>by kernel_rfl) (fun _=>by kernel_rfl) (fun p2=>?_) (fun p2 W2 T hF hK=>?_)
 ·refine ok_c (fun W cx=>as_v (salive_is _ (hT.kept cx.fr) (hN.kept cx.fr))) (by kernel_rfl) ?_
  refine ok_v (by kernel_rfl) ?_
  exact ok_nil
 replace hS:=SymF.fb hS hF [0,1] [⟨(p1 0).N,#[.int .i64 E,.int .i64 F],23,true⟩,⟨(p1 1).N,#[.bool s,.slice a n c,.slice b k l],35,true⟩] (by kernel_rfl) (by kernel_rfl)
 replace hG:=hF.gx
 clear hF
 have z2:=hS.fr.size
 refine wp_symQ hS hG hK (fun p3=>[.l 30 (.agg #[.int .i64 E,.int .i64 F]) 0 0,.l 31 (.agg #[.bool s,.slice a n c,.slice b k l]) 1 0,.c (some 32) (cV (.bool false)),.v 8 (.bool false)]) (fun p3=>[(2,.int .u8 (md:Int)),(3,.pointer (some ⟨(p1 0).N,0,none⟩)),(4,.pointer (some ⟨(p1 1).N,0,none⟩)),(6,.bool false),(7,.bool true),(8,.bool false)]) (by kernel_rfl) (fun _ _=>by kernel_rfl) (fun _=>by kernel_rfl) (fun _=>by kernel_rfl) (fun p3=>?_) (fun p3 W3 T hF hK=>?_)
 ·iterate 2 refine ok_L (by kernel_rfl) (by kernel_rfl) (by kernel_rfl) ?_
  refine ok_c (fun W cx=>as_v (unhide H1 _ cx.fr)) (by kernel_rfl) ?_
  refine ok_v (by kernel_rfl) ?_
  exact ok_nil
 replace hS:=SymF.fb hS hF [0,1] [⟨(p1 0).N,#[.int .i64 E,.int .i64 F],23,true⟩,⟨(p1 1).N,#[.bool s,.slice a n c,.slice b k l],35,true⟩] (by kernel_rfl) (by kernel_rfl)
 replace hG:=hF.gx
 clear hF
 have z3:=hS.fr.size
 refine wp_seq ?_
 refine wp_symQ hS hG hK (fun p4=>[.v 33 (.bool false),.v 34 (.bool true),.v 35 (.bool true),.k (some 36),.k (some 37),.v 38 (.bool true)]) (fun p4=>[(2,.int .u8 (md:Int)),(3,.pointer (some ⟨(p1 0).N,0,none⟩)),(4,.pointer (some ⟨(p1 1).N,0,none⟩)),(6,.bool false),(7,.bool true),(38,.bool true)]) (by kernel_rfl) (fun _ _=>by kernel_rfl) (fun _=>by kernel_rfl) (fun _=>by kernel_rfl) (fun p4=>?_) (fun p4 W4 T hF hK=>?_)
 ·iterate 3 refine ok_v (by kernel_rfl) ?_
  iterate 2 refine ok_K (by kernel_rfl) ?_
  refine ok_v (by kernel_rfl) ?_
  exact ok_nil
 replace hS:=SymF.fb hS hF [0,1] [⟨(p1 0).N,#[.int .i64 E,.int .i64 F],23,true⟩,⟨(p1 1).N,#[.bool s,.slice a n c,.slice b k l],35,true⟩] (by kernel_rfl) (by kernel_rfl)
 replace hG:=hF.gx
 clear hF
 have z4:=hS.fr.size
 refine wp_cond_true (hK.ev 38 (by kernel_rfl) _ (by kernel_rfl)) ?_
 refine wp_symQ hS hG hK (fun p5=>[.v 39 (.bool true),.v 6 (.bool true)]) (fun p5=>[(2,.int .u8 (md:Int)),(3,.pointer (some ⟨(p1 0).N,0,none⟩)),(4,.pointer (some ⟨(p1 1).N,0,none⟩)),(6,.bool true),(7,.bool true),(38,.bool true)]) (by kernel_rfl) (fun _ _=>by kernel_rfl) (fun _=>by kernel_rfl) (fun _=>by kernel_rfl) (fun p5=>?_) (fun p5 W5 T hF hK=>?_)
 ·iterate 2 refine ok_v (by kernel_rfl) ?_
  exact ok_nil
 replace hS:=SymF.fb hS hF [0,1] [⟨(p1 0).N,#[.int .i64 E,.int .i64 F],23,true⟩,⟨(p1 1).N,#[.bool s,.slice a n c,.slice b k l],35,true⟩] (by kernel_rfl) (by kernel_rfl)
 replace hG:=hF.gx
 clear hF
 have z5:=hS.fr.size
 refine wp_ret ?_
 refine then_r ?_
 exact sym_end hS hK (.bool true) [] [] (by kernel_rfl) (by kernel_rfl) ⟨rfl,hS.fr⟩
theorem mir_mode (w:World) (E F:Int) (md:Nat) (s:Bool) (a b:Option Addr) (n c k l:Nat) (hT:Tb w) (hN:Nb5 w) (hm:4 < md) (H1:Hid (∀ W:World,Below w.heap.size w W→Calls Tryz.prog 12 #[.agg #[.int .i64 E,.int .i64 F],.agg #[.bool s,.slice a n c,.slice b k l]] W fun e W'=>e = .returned (.bool true)∧Below W.heap.size W W')) :
  Calls Tryz.prog 4 #[.agg #[.int .i64 E,.int .i64 F],.agg #[.bool s,.slice a n c,.slice b k l],.int .u8 (md:Int)] w fun en w'=>en = .returned (.bool true)∧Below w.heap.size w w':=by
 refine calls_sym Tryz.func4 rfl (by kernel_rfl) fun T hK=>?_
 replace hK:Kn T _ [(0,.agg #[.int .i64 E,.int .i64 F]),(1,.agg #[.bool s,.slice a n c,.slice b k l]),(2,.int .u8 (md:Int))]:=hK
 have hS:=Fb.begin w
 have hG:GsAt [] w:=trivial
 refine wp_symQ hS hG hK (fun p1=>[.n 3 #[.int .i64 E,.int .i64 F] 23,.n 4 #[.bool s,.slice a n c,.slice b k l] 35,.v 6 (.bool false)]) (fun p1=>[(2,.int .u8 (md:Int)),(3,.pointer (some ⟨(p1 0).N,0,none⟩)),(4,.pointer (some ⟨(p1 1).N,0,none⟩)),(6,.bool false)]) (by kernel_rfl) (fun _ _=>by kernel_rfl) (fun _=>by kernel_rfl) (fun _=>by kernel_rfl) (fun p1=>?_) (fun p1 W1 T hF hK=>?_)
 ·iterate 2 refine ok_n (fun _=>by kernel_rfl) ?_
  refine ok_v (by kernel_rfl) ?_
  exact ok_nil
 replace hS:=SymF.fb hS hF [1000,1001] [⟨(p1 0).N,#[.int .i64 E,.int .i64 F],23,true⟩,⟨(p1 1).N,#[.bool s,.slice a n c,.slice b k l],35,true⟩] (by kernel_rfl) (by kernel_rfl)
 replace hG:=hF.gx
 clear hF
 have z1:=hS.fr.size
 refine wp_symQ hS hG hK (fun p2=>[.c (some 29) (cV (.bool true)),.v 7 (.bool true)]) (fun p2=>[(2,.int .u8 (md:Int)),(3,.pointer (some ⟨(p1 0).N,0,none⟩)),(4,.pointer (some ⟨(p1 1).N,0,none⟩)),(6,.bool false),(7,.bool true)]) (by kernel_rfl) (fun _ _=>by kernel_rfl) (fun _=>by kernel_rfl) (fun _=>by kernel_rfl) (fun p2=>?_) (fun p2 W2 T hF hK=>?_)
 ·refine ok_c (fun W cx=>as_v (salive_is _ (hT.kept cx.fr) (hN.kept cx.fr))) (by kernel_rfl) ?_
  refine ok_v (by kernel_rfl) ?_
  exact ok_nil
 replace hS:=SymF.fb hS hF [0,1] [⟨(p1 0).N,#[.int .i64 E,.int .i64 F],23,true⟩,⟨(p1 1).N,#[.bool s,.slice a n c,.slice b k l],35,true⟩] (by kernel_rfl) (by kernel_rfl)
 replace hG:=hF.gx
 clear hF
 have z2:=hS.fr.size
 refine wp_symQ hS hG hK (fun p3=>[.l 30 (.agg #[.int .i64 E,.int .i64 F]) 0 0,.l 31 (.agg #[.bool s,.slice a n c,.slice b k l]) 1 0,.c (some 32) (cV (.bool true)),.v 8 (.bool true)]) (fun p3=>[(2,.int .u8 (md:Int)),(3,.pointer (some ⟨(p1 0).N,0,none⟩)),(4,.pointer (some ⟨(p1 1).N,0,none⟩)),(6,.bool false),(7,.bool true),(8,.bool true)]) (by kernel_rfl) (fun _ _=>by kernel_rfl) (fun _=>by kernel_rfl) (fun _=>by kernel_rfl) (fun p3=>?_) (fun p3 W3 T hF hK=>?_)
 ·iterate 2 refine ok_L (by kernel_rfl) (by kernel_rfl) (by kernel_rfl) ?_
  refine ok_c (fun W cx=>as_v (unhide H1 _ cx.fr)) (by kernel_rfl) ?_
  refine ok_v (by kernel_rfl) ?_
  exact ok_nil
 replace hS:=SymF.fb hS hF [0,1] [⟨(p1 0).N,#[.int .i64 E,.int .i64 F],23,true⟩,⟨(p1 1).N,#[.bool s,.slice a n c,.slice b k l],35,true⟩] (by kernel_rfl) (by kernel_rfl)
 replace hG:=hF.gx
 clear hF
 have z3:=hS.fr.size
 refine wp_seq ?_
 refine wp_symQ hS hG hK (fun p4=>[.v 33 (.bool true),.v 34 (.bool false),.v 35 (.bool false),.v 36 (.int .u8 (md:Int)),.v 37 (.bool true),.v 38 (.bool true)]) (fun p4=>[(2,.int .u8 (md:Int)),(3,.pointer (some ⟨(p1 0).N,0,none⟩)),(4,.pointer (some ⟨(p1 1).N,0,none⟩)),(6,.bool false),(7,.bool true),(38,.bool true)]) (by kernel_rfl) (fun _ _=>by kernel_rfl) (fun _=>by kernel_rfl) (fun _=>by kernel_rfl) (fun p4=>?_) (fun p4 W4 T hF hK=>?_)
 ·iterate 4 refine ok_v (by kernel_rfl) ?_
  refine ok_vb (decide_eq_true (show (md:Int) > 4 by omega)) (by kernel_rfl) ?_
  refine ok_v (by kernel_rfl) ?_
  exact ok_nil
 replace hS:=SymF.fb hS hF [0,1] [⟨(p1 0).N,#[.int .i64 E,.int .i64 F],23,true⟩,⟨(p1 1).N,#[.bool s,.slice a n c,.slice b k l],35,true⟩] (by kernel_rfl) (by kernel_rfl)
 replace hG:=hF.gx
 clear hF
 have z4:=hS.fr.size
 refine wp_cond_true (hK.ev 38 (by kernel_rfl) _ (by kernel_rfl)) ?_
 refine wp_symQ hS hG hK (fun p5=>[.v 39 (.bool true),.v 6 (.bool true)]) (fun p5=>[(2,.int .u8 (md:Int)),(3,.pointer (some ⟨(p1 0).N,0,none⟩)),(4,.pointer (some ⟨(p1 1).N,0,none⟩)),(6,.bool true),(7,.bool true),(38,.bool true)]) (by kernel_rfl) (fun _ _=>by kernel_rfl) (fun _=>by kernel_rfl) (fun _=>by kernel_rfl) (fun p5=>?_) (fun p5 W5 T hF hK=>?_)
 ·iterate 2 refine ok_v (by kernel_rfl) ?_
  exact ok_nil
 replace hS:=SymF.fb hS hF [0,1] [⟨(p1 0).N,#[.int .i64 E,.int .i64 F],23,true⟩,⟨(p1 1).N,#[.bool s,.slice a n c,.slice b k l],35,true⟩] (by kernel_rfl) (by kernel_rfl)
 replace hG:=hF.gx
 clear hF
 have z5:=hS.fr.size
 refine wp_ret ?_
 refine then_r ?_
 exact sym_end hS hK (.bool true) [] [] (by kernel_rfl) (by kernel_rfl) ⟨rfl,hS.fr⟩
theorem mir_0 (w:World) (E F:Nat) (s:Bool) (a b:Option Addr) (n c k l:Nat) (q:Bool) (t S p d u v ba bb bd fa fd:Nat) (hT:Tb w) (hN:Nb5 w) (ht:E+F = t) (h63:t≤63) (hs:S = 2 ^ t) (hB:S≤9223372036854775808) (hx:bits BinOp.xor .u64 (ba:Int) (S:Int) = (bb:Int)) (H1:Hid (∀ W:World,Below w.heap.size w W→Calls Tryz.prog 12 #[.agg #[.int .i64 (E:Int),.int .i64 (F:Int)],.agg #[.bool s,.slice a n c,.slice b k l]] W fun e W'=>e = .returned (.bool true)∧Below W.heap.size W W')) (H2:Hid (∀ W:World,Below w.heap.size w W→Calls Tryz.prog 13 #[.agg #[.bool s,.slice a n c,.slice b k l]] W fun en W'=>(∃ A N C A' N' C',en = .returned (.tuple #[.agg #[.bool q,.slice A N C,.slice A' N' C'],.int .i64 0])∧Mine W' W.heap.size A N C p∧Mine W' W.heap.size A' N' C' d)∧Below W.heap.size W W')) (H3:Hid (∀ W:World,Below w.heap.size w W→Calls Tryz.prog 8 #[.agg #[.bool s,.slice a n c,.slice b k l],.int .u32 10,.int .i64 1] W fun en W'=>(∃ A N C A' N' C',en = .returned (.tuple #[.agg #[.bool s,.slice A N C,.slice A' N' C'],.int .i64 0])∧Mine W' W.heap.size A N C u∧Mine W' W.heap.size A' N' C' v)∧Below W.heap.size W W')) (H4:Hid (∀ W:World,Below w.heap.size w W→Calls Tryz.prog 9 #[.agg #[.int .i64 (E:Int),.int .i64 (F:Int)],.agg #[.bool s,.slice a n c,.slice b k l],.bool false,.int .u8 0] W fun e W'=>e = .returned (.tuple #[.int .u64 (ba:Int),.int .u8 (fa:Int),.int .i64 0])∧Below W.heap.size W W')) (H5:Hid (∀ (W:World) (A:Option Addr) (N C:Nat) (A':Option Addr) (N' C':Nat),Below w.heap.size w W→Num W A N p→Num W A' N' d→Calls Tryz.prog 9 #[.agg #[.int .i64 (E:Int),.int .i64 (F:Int)],.agg #[.bool q,.slice A N C,.slice A' N' C'],.bool true,.int .u8 0] W fun e W'=>e = .returned (.tuple #[.int .u64 (bb:Int),.int .u8 (fa:Int),.int .i64 0])∧Below W.heap.size W W')) (H6:Hid (∀ (W:World) (A:Option Addr) (N C:Nat) (A':Option Addr) (N' C':Nat),Below w.heap.size w W→Num W A N u→Num W A' N' v→Calls Tryz.prog 11 #[.agg #[.int .i64 (E:Int),.int .i64 (F:Int)],.agg #[.bool s,.slice A N C,.slice A' N' C'],.int .i64 (-1),.bool false,.int .u8 0] W fun e W'=>e = .returned (.tuple #[.int .u64 (ba:Int),.int .u8 (fa:Int),.int .i64 0])∧Below W.heap.size W W')) (H7:Hid (∀ (W:World) (A:Option Addr) (N C:Nat) (A':Option Addr) (N' C':Nat),Below w.heap.size w W→Num W A N u→Num W A' N' v→Calls Tryz.prog 9 #[.agg #[.int .i64 (E:Int),.int .i64 (F:Int)],.agg #[.bool s,.slice A N C,.slice A' N' C'],.bool false,.int .u8 0] W fun e W'=>e = .returned (.tuple #[.int .u64 (bd:Int),.int .u8 (fd:Int),.int .i64 0])∧Below W.heap.size W W')) (H8:Hid (∀ W:World,Below w.heap.size w W→Calls Tryz.prog 11 #[.agg #[.int .i64 (E:Int),.int .i64 (F:Int)],.agg #[.bool s,.slice a n c,.slice b k l],.int .i64 1,.bool false,.int .u8 0] W fun e W'=>e = .returned (.tuple #[.int .u64 (bd:Int),.int .u8 (fd:Int),.int .i64 0])∧Below W.heap.size W W')) :
  Calls Tryz.prog 4 #[.agg #[.int .i64 (E:Int),.int .i64 (F:Int)],.agg #[.bool s,.slice a n c,.slice b k l],.int .u8 0] w fun en w'=>en = .returned (.bool true)∧Below w.heap.size w w':=by
 have hsh:IntKind.u64.wrap (1 * 2 ^ min (t:Int).toNat 64) = (S:Int):=by rw [Int.toNat_natCast,Nat.min_eq_left (by omega),Int.one_mul,hs]; exact (wrux (x:=((2 ^ t:Nat):Int)) (by omega) (by rw [← hs]; omega))
 refine calls_sym Tryz.func4 rfl (by kernel_rfl) fun T hK=>?_
 replace hK:Kn T _ [(0,.agg #[.int .i64 (E:Int),.int .i64 (F:Int)]),(1,.agg #[.bool s,.slice a n c,.slice b k l]),(2,.int .u8 0)]:=hK
 have hS:=Fb.begin w
 have hG:GsAt [] w:=trivial
 refine wp_symQ hS hG hK (fun p1=>[.n 3 #[.int .i64 (E:Int),.int .i64 (F:Int)] 23,.n 4 #[.bool s,.slice a n c,.slice b k l] 35,.v 6 (.bool false)]) (fun p1=>[(2,.int .u8 0),(3,.pointer (some ⟨(p1 0).N,0,none⟩)),(4,.pointer (some ⟨(p1 1).N,0,none⟩)),(6,.bool false)]) (by kernel_rfl) (fun _ _=>by kernel_rfl) (fun _=>by kernel_rfl) (fun _=>by kernel_rfl) (fun p1=>?_) (fun p1 W1 T hF hK=>?_)
 ·iterate 2 refine ok_n (fun _=>by kernel_rfl) ?_
  refine ok_v (by kernel_rfl) ?_
  exact ok_nil
 replace hS:=SymF.fb hS hF [1000,1001] [⟨(p1 0).N,#[.int .i64 (E:Int),.int .i64 (F:Int)],23,true⟩,⟨(p1 1).N,#[.bool s,.slice a n c,.slice b k l],35,true⟩] (by kernel_rfl) (by kernel_rfl)
 replace hG:=hF.gx
 clear hF
 have z1:=hS.fr.size
 refine wp_symQ hS hG hK (fun p2=>[.c (some 29) (cV (.bool true)),.v 7 (.bool true)]) (fun p2=>[(2,.int .u8 0),(3,.pointer (some ⟨(p1 0).N,0,none⟩)),(4,.pointer (some ⟨(p1 1).N,0,none⟩)),(6,.bool false),(7,.bool true)]) (by kernel_rfl) (fun _ _=>by kernel_rfl) (fun _=>by kernel_rfl) (fun _=>by kernel_rfl) (fun p2=>?_) (fun p2 W2 T hF hK=>?_)
 ·refine ok_c (fun W cx=>as_v (salive_is _ (hT.kept cx.fr) (hN.kept cx.fr))) (by kernel_rfl) ?_
  refine ok_v (by kernel_rfl) ?_
  exact ok_nil
 replace hS:=SymF.fb hS hF [0,1] [⟨(p1 0).N,#[.int .i64 (E:Int),.int .i64 (F:Int)],23,true⟩,⟨(p1 1).N,#[.bool s,.slice a n c,.slice b k l],35,true⟩] (by kernel_rfl) (by kernel_rfl)
 replace hG:=hF.gx
 clear hF
 have z2:=hS.fr.size
 refine wp_symQ hS hG hK (fun p3=>[.l 30 (.agg #[.int .i64 (E:Int),.int .i64 (F:Int)]) 0 0,.l 31 (.agg #[.bool s,.slice a n c,.slice b k l]) 1 0,.c (some 32) (cV (.bool true)),.v 8 (.bool true)]) (fun p3=>[(2,.int .u8 0),(3,.pointer (some ⟨(p1 0).N,0,none⟩)),(4,.pointer (some ⟨(p1 1).N,0,none⟩)),(6,.bool false),(7,.bool true),(8,.bool true)]) (by kernel_rfl) (fun _ _=>by kernel_rfl) (fun _=>by kernel_rfl) (fun _=>by kernel_rfl) (fun p3=>?_) (fun p3 W3 T hF hK=>?_)
 ·iterate 2 refine ok_L (by kernel_rfl) (by kernel_rfl) (by kernel_rfl) ?_
  refine ok_c (fun W cx=>as_v (unhide H1 _ cx.fr)) (by kernel_rfl) ?_
  refine ok_v (by kernel_rfl) ?_
  exact ok_nil
 replace hS:=SymF.fb hS hF [0,1] [⟨(p1 0).N,#[.int .i64 (E:Int),.int .i64 (F:Int)],23,true⟩,⟨(p1 1).N,#[.bool s,.slice a n c,.slice b k l],35,true⟩] (by kernel_rfl) (by kernel_rfl)
 replace hG:=hF.gx
 clear hF
 have z3:=hS.fr.size
 refine wp_seq ?_
 refine wp_symQ hS hG hK (fun p4=>[.v 33 (.bool true),.v 34 (.bool false),.v 35 (.bool false),.v 36 (.int .u8 0),.v 37 (.bool false),.v 38 (.bool false)]) (fun p4=>[(2,.int .u8 0),(3,.pointer (some ⟨(p1 0).N,0,none⟩)),(4,.pointer (some ⟨(p1 1).N,0,none⟩)),(6,.bool false),(7,.bool true),(38,.bool false)]) (by kernel_rfl) (fun _ _=>by kernel_rfl) (fun _=>by kernel_rfl) (fun _=>by kernel_rfl) (fun p4=>?_) (fun p4 W4 T hF hK=>?_)
 ·iterate 6 refine ok_v (by kernel_rfl) ?_
  exact ok_nil
 replace hS:=SymF.fb hS hF [0,1] [⟨(p1 0).N,#[.int .i64 (E:Int),.int .i64 (F:Int)],23,true⟩,⟨(p1 1).N,#[.bool s,.slice a n c,.slice b k l],35,true⟩] (by kernel_rfl) (by kernel_rfl)
 replace hG:=hF.gx
 clear hF
 have z4:=hS.fr.size
 refine wp_cond_false (hK.ev 38 (by kernel_rfl) _ (by kernel_rfl)) ?_
 refine wp_skip ?_
 refine then_n ?_
 refine wp_symQ hS hG hK (fun p5=>[.n 40 #[.int .u8 0,.int .u8 1,.int .u8 2,.int .u8 4,.int .u8 3] (5000000+5),.v 41 (.int .u8 0),.v 42 (.pointer (some ⟨(p5 0).N,0,none⟩)),.l 43 (.int .u8 0) 1000 0,.v 9 (.int .u8 0)]) (fun p5=>[(2,.int .u8 0),(3,.pointer (some ⟨(p1 0).N,0,none⟩)),(4,.pointer (some ⟨(p1 1).N,0,none⟩)),(6,.bool false),(7,.bool true),(9,.int .u8 0),(38,.bool false)]) (by kernel_rfl) (fun _ _=>by kernel_rfl) (fun _=>by kernel_rfl) (fun _=>by kernel_rfl) (fun p5=>?_) (fun p5 W5 T hF hK=>?_)
 ·refine ok_n (fun _=>by kernel_rfl) ?_
  iterate 2 refine ok_v (by kernel_rfl) ?_
  refine ok_L (by kernel_rfl) (by kernel_rfl) (by kernel_rfl) ?_
  refine ok_v (by kernel_rfl) ?_
  exact ok_nil
 replace hS:=SymF.fb hS hF [0,1] [⟨(p1 0).N,#[.int .i64 (E:Int),.int .i64 (F:Int)],23,true⟩,⟨(p1 1).N,#[.bool s,.slice a n c,.slice b k l],35,true⟩] (by kernel_rfl) (by kernel_rfl)
 replace hG:=hF.gx
 clear hF
 have z5:=hS.fr.size
 refine wp_symQ hS hG hK (fun p6=>[.l 45 (.agg #[.bool s,.slice a n c,.slice b k l]) 1 0,.c (some 46) (cH W5.heap.size p d fun x9 y9=>.tuple #[.agg #[.bool q,x9,y9],.int .i64 0]),.v 44 (.tuple #[.agg #[.bool q,.slice (p6 1).A (p6 1).N (p6 1).C,.slice (p6 1).A' (p6 1).N' (p6 1).C'],.int .i64 0]),.v 47 (.agg #[.bool q,.slice (p6 1).A (p6 1).N (p6 1).C,.slice (p6 1).A' (p6 1).N' (p6 1).C']),.v 48 (.int .i64 0),.n 10 #[.bool false,.slice none 0 0,.slice none 0 0] 35,.p 1005 0 [.bool q,.slice (p6 1).A (p6 1).N (p6 1).C,.slice (p6 1).A' (p6 1).N' (p6 1).C'],.v 11 (.int .i64 0)]) (fun p6=>[(2,.int .u8 0),(3,.pointer (some ⟨(p1 0).N,0,none⟩)),(4,.pointer (some ⟨(p1 1).N,0,none⟩)),(6,.bool false),(7,.bool true),(9,.int .u8 0),(10,.pointer (some ⟨(p6 5).N,0,none⟩)),(11,.int .i64 0),(38,.bool false)]) (by kernel_rfl) (fun _ _=>by kernel_rfl) (fun _=>by kernel_rfl) (fun _=>by kernel_rfl) (fun p6=>?_) (fun p6 W6 T hF hK=>?_)
 ·refine ok_L (by kernel_rfl) (by kernel_rfl) (by kernel_rfl) ?_
  refine ok_c (fun W cx=>as_h cx.hb (unhide H2 _ cx.fr)) (by kernel_rfl) ?_
  iterate 3 refine ok_v (by kernel_rfl) ?_
  refine ok_n (fun _=>by kernel_rfl) ?_
  refine ok_P (by kernel_rfl) (by kernel_rfl) (by kernel_rfl) ?_
  refine ok_v (by kernel_rfl) ?_
  exact ok_nil
 replace hS:=SymF.fb hS hF [0,1,1005] [⟨(p1 0).N,#[.int .i64 (E:Int),.int .i64 (F:Int)],23,true⟩,⟨(p1 1).N,#[.bool s,.slice a n c,.slice b k l],35,true⟩,⟨(p6 5).N,#[.bool q,.slice (p6 1).A (p6 1).N (p6 1).C,.slice (p6 1).A' (p6 1).N' (p6 1).C'],35,true⟩] (by kernel_rfl) (by kernel_rfl)
 replace hG:GsAt (gM W5.heap.size (p6 1).A (p6 1).N (p6 1).C p :: gM W5.heap.size (p6 1).A' (p6 1).N' (p6 1).C' d :: _) W6:=⟨And.left (hF.fx 1),And.right (hF.fx 1),hF.gx⟩
 clear hF
 have z6:=hS.fr.size
 refine wp_symQ hS hG hK (fun p7=>[.l 50 (.agg #[.bool s,.slice a n c,.slice b k l]) 1 0,.c (some 51) (cH W6.heap.size u v fun x9 y9=>.tuple #[.agg #[.bool s,x9,y9],.int .i64 0]),.v 49 (.tuple #[.agg #[.bool s,.slice (p7 1).A (p7 1).N (p7 1).C,.slice (p7 1).A' (p7 1).N' (p7 1).C'],.int .i64 0]),.v 52 (.agg #[.bool s,.slice (p7 1).A (p7 1).N (p7 1).C,.slice (p7 1).A' (p7 1).N' (p7 1).C']),.v 53 (.int .i64 0),.n 12 #[.bool false,.slice none 0 0,.slice none 0 0] 35,.p 1005 0 [.bool s,.slice (p7 1).A (p7 1).N (p7 1).C,.slice (p7 1).A' (p7 1).N' (p7 1).C'],.v 13 (.int .i64 0)]) (fun p7=>[(2,.int .u8 0),(3,.pointer (some ⟨(p1 0).N,0,none⟩)),(4,.pointer (some ⟨(p1 1).N,0,none⟩)),(6,.bool false),(7,.bool true),(9,.int .u8 0),(10,.pointer (some ⟨(p6 5).N,0,none⟩)),(11,.int .i64 0),(12,.pointer (some ⟨(p7 5).N,0,none⟩)),(13,.int .i64 0),(38,.bool false)]) (by kernel_rfl) (fun _ _=>by kernel_rfl) (fun _=>by kernel_rfl) (fun _=>by kernel_rfl) (fun p7=>?_) (fun p7 W7 T hF hK=>?_)
 ·refine ok_L (by kernel_rfl) (by kernel_rfl) (by kernel_rfl) ?_
  refine ok_c (fun W cx=>as_h cx.hb (unhide H3 _ cx.fr)) (by kernel_rfl) ?_
  iterate 3 refine ok_v (by kernel_rfl) ?_
  refine ok_n (fun _=>by kernel_rfl) ?_
  refine ok_P (by kernel_rfl) (by kernel_rfl) (by kernel_rfl) ?_
  refine ok_v (by kernel_rfl) ?_
  exact ok_nil
 replace hS:=SymF.fb hS hF [0,1,2,1005] [⟨(p1 0).N,#[.int .i64 (E:Int),.int .i64 (F:Int)],23,true⟩,⟨(p1 1).N,#[.bool s,.slice a n c,.slice b k l],35,true⟩,⟨(p6 5).N,#[.bool q,.slice (p6 1).A (p6 1).N (p6 1).C,.slice (p6 1).A' (p6 1).N' (p6 1).C'],35,true⟩,⟨(p7 5).N,#[.bool s,.slice (p7 1).A (p7 1).N (p7 1).C,.slice (p7 1).A' (p7 1).N' (p7 1).C'],35,true⟩] (by kernel_rfl) (by kernel_rfl)
 replace hG:GsAt (gM W6.heap.size (p7 1).A (p7 1).N (p7 1).C u :: gM W6.heap.size (p7 1).A' (p7 1).N' (p7 1).C' v :: _) W7:=⟨And.left (hF.fx 1),And.right (hF.fx 1),hF.gx⟩
 clear hF
 have z7:=hS.fr.size
 refine wp_symQ hS hG hK (fun p8=>[.l 55 (.agg #[.int .i64 (E:Int),.int .i64 (F:Int)]) 0 0,.l 56 (.agg #[.bool s,.slice a n c,.slice b k l]) 1 0,.v 57 (.int .u8 0),.c (some 58) (cV (.tuple #[.int .u64 (ba:Int),.int .u8 (fa:Int),.int .i64 0])),.v 54 (.tuple #[.int .u64 (ba:Int),.int .u8 (fa:Int),.int .i64 0]),.v 59 (.int .u64 (ba:Int)),.v 60 (.int .u8 (fa:Int)),.v 61 (.int .i64 0),.v 14 (.int .u64 (ba:Int)),.v 15 (.int .u8 (fa:Int)),.v 16 (.int .i64 0)]) (fun p8=>[(2,.int .u8 0),(3,.pointer (some ⟨(p1 0).N,0,none⟩)),(4,.pointer (some ⟨(p1 1).N,0,none⟩)),(6,.bool false),(7,.bool true),(9,.int .u8 0),(10,.pointer (some ⟨(p6 5).N,0,none⟩)),(11,.int .i64 0),(12,.pointer (some ⟨(p7 5).N,0,none⟩)),(13,.int .i64 0),(14,.int .u64 (ba:Int)),(15,.int .u8 (fa:Int)),(16,.int .i64 0),(38,.bool false)]) (by kernel_rfl) (fun _ _=>by kernel_rfl) (fun _=>by kernel_rfl) (fun _=>by kernel_rfl) (fun p8=>?_) (fun p8 W8 T hF hK=>?_)
 ·iterate 2 refine ok_L (by kernel_rfl) (by kernel_rfl) (by kernel_rfl) ?_
  refine ok_v (by kernel_rfl) ?_
  refine ok_c (fun W cx=>as_v (unhide H4 _ cx.fr)) (by kernel_rfl) ?_
  iterate 7 refine ok_v (by kernel_rfl) ?_
  exact ok_nil
 replace hS:=SymF.fb hS hF [0,1,2,3] [⟨(p1 0).N,#[.int .i64 (E:Int),.int .i64 (F:Int)],23,true⟩,⟨(p1 1).N,#[.bool s,.slice a n c,.slice b k l],35,true⟩,⟨(p6 5).N,#[.bool q,.slice (p6 1).A (p6 1).N (p6 1).C,.slice (p6 1).A' (p6 1).N' (p6 1).C'],35,true⟩,⟨(p7 5).N,#[.bool s,.slice (p7 1).A (p7 1).N (p7 1).C,.slice (p7 1).A' (p7 1).N' (p7 1).C'],35,true⟩] (by kernel_rfl) (by kernel_rfl)
 replace hG:=hF.gx
 clear hF
 have z8:=hS.fr.size
 refine wp_symQ hS hG hK (fun p9=>[.l 63 (.agg #[.int .i64 (E:Int),.int .i64 (F:Int)]) 0 0,.l 64 (.agg #[.bool q,.slice (p6 1).A (p6 1).N (p6 1).C,.slice (p6 1).A' (p6 1).N' (p6 1).C']) 2 0,.v 65 (.int .u8 0),.c (some 66) (cV (.tuple #[.int .u64 (bb:Int),.int .u8 (fa:Int),.int .i64 0])),.v 62 (.tuple #[.int .u64 (bb:Int),.int .u8 (fa:Int),.int .i64 0]),.v 67 (.int .u64 (bb:Int)),.v 68 (.int .u8 (fa:Int)),.v 69 (.int .i64 0),.v 17 (.int .u64 (bb:Int)),.v 18 (.int .u8 (fa:Int)),.v 19 (.int .i64 0)]) (fun p9=>[(2,.int .u8 0),(3,.pointer (some ⟨(p1 0).N,0,none⟩)),(4,.pointer (some ⟨(p1 1).N,0,none⟩)),(6,.bool false),(7,.bool true),(11,.int .i64 0),(12,.pointer (some ⟨(p7 5).N,0,none⟩)),(13,.int .i64 0),(14,.int .u64 (ba:Int)),(15,.int .u8 (fa:Int)),(16,.int .i64 0),(17,.int .u64 (bb:Int)),(18,.int .u8 (fa:Int)),(19,.int .i64 0),(38,.bool false)]) (by kernel_rfl) (fun _ _=>by kernel_rfl) (fun _=>by kernel_rfl) (fun _=>by kernel_rfl) (fun p9=>?_) (fun p9 W9 T hF hK=>?_)
 ·iterate 2 refine ok_L (by kernel_rfl) (by kernel_rfl) (by kernel_rfl) ?_
  refine ok_v (by kernel_rfl) ?_
  refine ok_c (fun W cx=>as_v (unhide H5 _ _ _ (p6 1).C _ _ (p6 1).C' cx.fr (Mine.num cx.G.2.2.1) (Mine.num cx.G.2.2.2.1))) (by kernel_rfl) ?_
  iterate 7 refine ok_v (by kernel_rfl) ?_
  exact ok_nil
 replace hS:=SymF.fb hS hF [0,1,3] [⟨(p1 0).N,#[.int .i64 (E:Int),.int .i64 (F:Int)],23,true⟩,⟨(p1 1).N,#[.bool s,.slice a n c,.slice b k l],35,true⟩,⟨(p7 5).N,#[.bool s,.slice (p7 1).A (p7 1).N (p7 1).C,.slice (p7 1).A' (p7 1).N' (p7 1).C'],35,true⟩] (by kernel_rfl) (by kernel_rfl)
 replace hG:=hF.gx
 clear hF
 have z9:=hS.fr.size
 refine wp_symQ hS hG hK (fun p10=>[.l 71 (.agg #[.int .i64 (E:Int),.int .i64 (F:Int)]) 0 0,.l 72 (.agg #[.bool s,.slice (p7 1).A (p7 1).N (p7 1).C,.slice (p7 1).A' (p7 1).N' (p7 1).C']) 2 0,.v 73 (.int .u8 0),.c (some 74) (cV (.tuple #[.int .u64 (ba:Int),.int .u8 (fa:Int),.int .i64 0])),.v 70 (.tuple #[.int .u64 (ba:Int),.int .u8 (fa:Int),.int .i64 0]),.v 75 (.int .u64 (ba:Int)),.v 76 (.int .u8 (fa:Int)),.v 77 (.int .i64 0),.v 20 (.int .u64 (ba:Int)),.v 21 (.int .u8 (fa:Int)),.v 22 (.int .i64 0)]) (fun p10=>[(2,.int .u8 0),(3,.pointer (some ⟨(p1 0).N,0,none⟩)),(4,.pointer (some ⟨(p1 1).N,0,none⟩)),(6,.bool false),(7,.bool true),(11,.int .i64 0),(12,.pointer (some ⟨(p7 5).N,0,none⟩)),(13,.int .i64 0),(14,.int .u64 (ba:Int)),(15,.int .u8 (fa:Int)),(16,.int .i64 0),(17,.int .u64 (bb:Int)),(18,.int .u8 (fa:Int)),(19,.int .i64 0),(20,.int .u64 (ba:Int)),(21,.int .u8 (fa:Int)),(22,.int .i64 0),(38,.bool false)]) (by kernel_rfl) (fun _ _=>by kernel_rfl) (fun _=>by kernel_rfl) (fun _=>by kernel_rfl) (fun p10=>?_) (fun p10 W10 T hF hK=>?_)
 ·iterate 2 refine ok_L (by kernel_rfl) (by kernel_rfl) (by kernel_rfl) ?_
  refine ok_v (by kernel_rfl) ?_
  refine ok_c (fun W cx=>as_v (unhide H6 _ _ _ (p7 1).C _ _ (p7 1).C' cx.fr (Mine.num cx.G.1) (Mine.num cx.G.2.1))) (by kernel_rfl) ?_
  iterate 7 refine ok_v (by kernel_rfl) ?_
  exact ok_nil
 replace hS:=SymF.fb hS hF [0,1,2] [⟨(p1 0).N,#[.int .i64 (E:Int),.int .i64 (F:Int)],23,true⟩,⟨(p1 1).N,#[.bool s,.slice a n c,.slice b k l],35,true⟩,⟨(p7 5).N,#[.bool s,.slice (p7 1).A (p7 1).N (p7 1).C,.slice (p7 1).A' (p7 1).N' (p7 1).C'],35,true⟩] (by kernel_rfl) (by kernel_rfl)
 replace hG:=hF.gx
 clear hF
 have z10:=hS.fr.size
 refine wp_symQ hS hG hK (fun p11=>[.l 79 (.agg #[.int .i64 (E:Int),.int .i64 (F:Int)]) 0 0,.l 80 (.agg #[.bool s,.slice (p7 1).A (p7 1).N (p7 1).C,.slice (p7 1).A' (p7 1).N' (p7 1).C']) 2 0,.v 81 (.int .u8 0),.c (some 82) (cV (.tuple #[.int .u64 (bd:Int),.int .u8 (fd:Int),.int .i64 0])),.v 78 (.tuple #[.int .u64 (bd:Int),.int .u8 (fd:Int),.int .i64 0]),.v 83 (.int .u64 (bd:Int)),.v 84 (.int .u8 (fd:Int)),.v 85 (.int .i64 0),.v 23 (.int .u64 (bd:Int)),.v 24 (.int .u8 (fd:Int)),.v 25 (.int .i64 0)]) (fun p11=>[(2,.int .u8 0),(3,.pointer (some ⟨(p1 0).N,0,none⟩)),(4,.pointer (some ⟨(p1 1).N,0,none⟩)),(6,.bool false),(7,.bool true),(11,.int .i64 0),(13,.int .i64 0),(14,.int .u64 (ba:Int)),(15,.int .u8 (fa:Int)),(16,.int .i64 0),(17,.int .u64 (bb:Int)),(18,.int .u8 (fa:Int)),(19,.int .i64 0),(20,.int .u64 (ba:Int)),(21,.int .u8 (fa:Int)),(22,.int .i64 0),(23,.int .u64 (bd:Int)),(24,.int .u8 (fd:Int)),(25,.int .i64 0),(38,.bool false)]) (by kernel_rfl) (fun _ _=>by kernel_rfl) (fun _=>by kernel_rfl) (fun _=>by kernel_rfl) (fun p11=>?_) (fun p11 W11 T hF hK=>?_)
 ·iterate 2 refine ok_L (by kernel_rfl) (by kernel_rfl) (by kernel_rfl) ?_
  refine ok_v (by kernel_rfl) ?_
  refine ok_c (fun W cx=>as_v (unhide H7 _ _ _ (p7 1).C _ _ (p7 1).C' cx.fr (Mine.num cx.G.1) (Mine.num cx.G.2.1))) (by kernel_rfl) ?_
  iterate 7 refine ok_v (by kernel_rfl) ?_
  exact ok_nil
 replace hS:=SymF.fb hS hF [0,1] [⟨(p1 0).N,#[.int .i64 (E:Int),.int .i64 (F:Int)],23,true⟩,⟨(p1 1).N,#[.bool s,.slice a n c,.slice b k l],35,true⟩] (by kernel_rfl) (by kernel_rfl)
 replace hG:=hF.gx
 clear hF
 have z11:=hS.fr.size
 refine wp_symQ hS hG hK (fun p12=>[.l 87 (.agg #[.int .i64 (E:Int),.int .i64 (F:Int)]) 0 0,.l 88 (.agg #[.bool s,.slice a n c,.slice b k l]) 1 0,.v 89 (.int .u8 0),.c (some 90) (cV (.tuple #[.int .u64 (bd:Int),.int .u8 (fd:Int),.int .i64 0])),.v 86 (.tuple #[.int .u64 (bd:Int),.int .u8 (fd:Int),.int .i64 0]),.v 91 (.int .u64 (bd:Int)),.v 92 (.int .u8 (fd:Int)),.v 93 (.int .i64 0),.v 26 (.int .u64 (bd:Int)),.v 27 (.int .u8 (fd:Int)),.v 28 (.int .i64 0)]) (fun p12=>[(3,.pointer (some ⟨(p1 0).N,0,none⟩)),(6,.bool false),(7,.bool true),(11,.int .i64 0),(13,.int .i64 0),(14,.int .u64 (ba:Int)),(15,.int .u8 (fa:Int)),(16,.int .i64 0),(17,.int .u64 (bb:Int)),(18,.int .u8 (fa:Int)),(19,.int .i64 0),(20,.int .u64 (ba:Int)),(21,.int .u8 (fa:Int)),(22,.int .i64 0),(23,.int .u64 (bd:Int)),(24,.int .u8 (fd:Int)),(25,.int .i64 0),(26,.int .u64 (bd:Int)),(27,.int .u8 (fd:Int)),(28,.int .i64 0),(38,.bool false)]) (by kernel_rfl) (fun _ _=>by kernel_rfl) (fun _=>by kernel_rfl) (fun _=>by kernel_rfl) (fun p12=>?_) (fun p12 W12 T hF hK=>?_)
 ·iterate 2 refine ok_L (by kernel_rfl) (by kernel_rfl) (by kernel_rfl) ?_
  refine ok_v (by kernel_rfl) ?_
  refine ok_c (fun W cx=>as_v (unhide H8 _ cx.fr)) (by kernel_rfl) ?_
  iterate 7 refine ok_v (by kernel_rfl) ?_
  exact ok_nil
 replace hS:=SymF.fb hS hF [0] [⟨(p1 0).N,#[.int .i64 (E:Int),.int .i64 (F:Int)],23,true⟩] (by kernel_rfl) (by kernel_rfl)
 replace hG:=hF.gx
 clear hF
 have z12:=hS.fr.size
 refine wp_seq ?_
 refine wp_symQ hS hG hK (fun p13=>[.v 94 (.int .i64 0),.v 95 (.bool false),.v 96 (.bool false),.v 97 (.int .i64 0),.v 98 (.bool false),.v 99 (.bool false),.v 100 (.bool false),.v 101 (.int .i64 0),.v 102 (.bool false),.v 103 (.bool false),.v 104 (.bool false),.v 105 (.int .i64 0),.v 106 (.bool false),.v 107 (.bool false),.v 108 (.bool false),.v 109 (.int .i64 0),.v 110 (.bool false),.v 111 (.bool false),.v 112 (.bool false),.v 113 (.int .i64 0),.v 114 (.bool false),.v 115 (.bool false),.v 116 (.bool false),.v 117 (.int .i64 0),.v 118 (.bool false),.v 119 (.bool false)]) (fun p13=>[(3,.pointer (some ⟨(p1 0).N,0,none⟩)),(6,.bool false),(7,.bool true),(14,.int .u64 (ba:Int)),(15,.int .u8 (fa:Int)),(17,.int .u64 (bb:Int)),(18,.int .u8 (fa:Int)),(20,.int .u64 (ba:Int)),(21,.int .u8 (fa:Int)),(23,.int .u64 (bd:Int)),(24,.int .u8 (fd:Int)),(26,.int .u64 (bd:Int)),(27,.int .u8 (fd:Int)),(38,.bool false),(119,.bool false)]) (by kernel_rfl) (fun _ _=>by kernel_rfl) (fun _=>by kernel_rfl) (fun _=>by kernel_rfl) (fun p13=>?_) (fun p13 W13 T hF hK=>?_)
 ·iterate 26 refine ok_v (by kernel_rfl) ?_
  exact ok_nil
 replace hS:=SymF.fb hS hF [0] [⟨(p1 0).N,#[.int .i64 (E:Int),.int .i64 (F:Int)],23,true⟩] (by kernel_rfl) (by kernel_rfl)
 replace hG:=hF.gx
 clear hF
 have z13:=hS.fr.size
 refine wp_cond_false (hK.ev 119 (by kernel_rfl) _ (by kernel_rfl)) ?_
 refine wp_skip ?_
 refine then_n ?_
 refine wp_symQ hS hG hK (fun p14=>[.v 120 (.bool true),.v 121 (.bool true),.v 122 (.int .u64 (bb:Int)),.v 123 (.int .u64 (ba:Int)),.v 124 (.pointer (some ⟨(p1 0).N,0,none⟩)),.l 125 (.int .i64 (E:Int)) 0 0,.v 126 (.pointer (some ⟨(p1 0).N,1,none⟩)),.l 127 (.int .i64 (F:Int)) 0 1,.v 128 (.int .i64 (t:Int)),.v 129 (.int .u64 (t:Int)),.v 130 (.int .u64 (S:Int)),.v 131 (.int .u64 (bb:Int)),.v 132 (.bool true),.v 133 (.bool true),.v 134 (.bool true),.v 135 (.int .u8 (fa:Int)),.v 136 (.int .u8 (fa:Int)),.v 137 (.bool true),.v 138 (.bool true),.v 139 (.bool true),.v 140 (.int .u64 (ba:Int)),.v 141 (.int .u64 (ba:Int)),.v 142 (.bool true),.v 143 (.bool true),.v 144 (.bool true),.v 145 (.int .u8 (fa:Int)),.v 146 (.int .u8 (fa:Int)),.v 147 (.bool true),.v 148 (.bool true),.v 149 (.bool true),.v 150 (.int .u64 (bd:Int)),.v 151 (.int .u64 (bd:Int)),.v 152 (.bool true),.v 153 (.bool true),.v 154 (.bool true),.v 155 (.int .u8 (fd:Int)),.v 156 (.int .u8 (fd:Int)),.v 157 (.bool true),.v 158 (.bool true),.v 6 (.bool true)]) (fun p14=>[(6,.bool true),(7,.bool true),(38,.bool false),(119,.bool false)]) (by kernel_rfl) (fun _ _=>by kernel_rfl) (fun _=>by kernel_rfl) (fun _=>by kernel_rfl) (fun p14=>?_) (fun p14 W14 T hF hK=>?_)
 ·iterate 5 refine ok_v (by kernel_rfl) ?_
  refine ok_L (by kernel_rfl) (by kernel_rfl) (by kernel_rfl) ?_
  refine ok_v (by kernel_rfl) ?_
  refine ok_L (by kernel_rfl) (by kernel_rfl) (by kernel_rfl) ?_
  refine ok_vi ((wr64 (x:=(E:Int)+(F:Int)) (by omega) (by omega)).trans (by omega)) (by kernel_rfl) ?_
  refine ok_vi (wrux (x:=(t:Int)) (by omega) (by omega)) (by kernel_rfl) ?_
  refine ok_vi (hsh) (by kernel_rfl) ?_
  refine ok_vi (hx) (by kernel_rfl) ?_
  refine ok_vb (beq_self_eq_true (bb:Int)) (by kernel_rfl) ?_
  iterate 4 refine ok_v (by kernel_rfl) ?_
  refine ok_vb (beq_self_eq_true (fa:Int)) (by kernel_rfl) ?_
  iterate 4 refine ok_v (by kernel_rfl) ?_
  refine ok_vb (beq_self_eq_true (ba:Int)) (by kernel_rfl) ?_
  iterate 4 refine ok_v (by kernel_rfl) ?_
  refine ok_vb (beq_self_eq_true (fa:Int)) (by kernel_rfl) ?_
  iterate 4 refine ok_v (by kernel_rfl) ?_
  refine ok_vb (beq_self_eq_true (bd:Int)) (by kernel_rfl) ?_
  iterate 4 refine ok_v (by kernel_rfl) ?_
  refine ok_vb (beq_self_eq_true (fd:Int)) (by kernel_rfl) ?_
  iterate 2 refine ok_v (by kernel_rfl) ?_
  exact ok_nil
 replace hS:=SymF.fb hS hF [] [] (by kernel_rfl) (by kernel_rfl)
 replace hG:=hF.gx
 clear hF
 have z14:=hS.fr.size
 refine wp_ret ?_
 exact sym_end hS hK (.bool true) [] [] (by kernel_rfl) (by kernel_rfl) ⟨rfl,hS.fr⟩
theorem mir_1 (w:World) (E F:Nat) (s:Bool) (a b:Option Addr) (n c k l:Nat) (q:Bool) (t S p d u v ba bb bd fa fd:Nat) (hT:Tb w) (hN:Nb5 w) (ht:E+F = t) (h63:t≤63) (hs:S = 2 ^ t) (hB:S≤9223372036854775808) (hx:bits BinOp.xor .u64 (ba:Int) (S:Int) = (bb:Int)) (H1:Hid (∀ W:World,Below w.heap.size w W→Calls Tryz.prog 12 #[.agg #[.int .i64 (E:Int),.int .i64 (F:Int)],.agg #[.bool s,.slice a n c,.slice b k l]] W fun e W'=>e = .returned (.bool true)∧Below W.heap.size W W')) (H2:Hid (∀ W:World,Below w.heap.size w W→Calls Tryz.prog 13 #[.agg #[.bool s,.slice a n c,.slice b k l]] W fun en W'=>(∃ A N C A' N' C',en = .returned (.tuple #[.agg #[.bool q,.slice A N C,.slice A' N' C'],.int .i64 0])∧Mine W' W.heap.size A N C p∧Mine W' W.heap.size A' N' C' d)∧Below W.heap.size W W')) (H3:Hid (∀ W:World,Below w.heap.size w W→Calls Tryz.prog 8 #[.agg #[.bool s,.slice a n c,.slice b k l],.int .u32 10,.int .i64 1] W fun en W'=>(∃ A N C A' N' C',en = .returned (.tuple #[.agg #[.bool s,.slice A N C,.slice A' N' C'],.int .i64 0])∧Mine W' W.heap.size A N C u∧Mine W' W.heap.size A' N' C' v)∧Below W.heap.size W W')) (H4:Hid (∀ W:World,Below w.heap.size w W→Calls Tryz.prog 9 #[.agg #[.int .i64 (E:Int),.int .i64 (F:Int)],.agg #[.bool s,.slice a n c,.slice b k l],.bool false,.int .u8 1] W fun e W'=>e = .returned (.tuple #[.int .u64 (ba:Int),.int .u8 (fa:Int),.int .i64 0])∧Below W.heap.size W W')) (H5:Hid (∀ (W:World) (A:Option Addr) (N C:Nat) (A':Option Addr) (N' C':Nat),Below w.heap.size w W→Num W A N p→Num W A' N' d→Calls Tryz.prog 9 #[.agg #[.int .i64 (E:Int),.int .i64 (F:Int)],.agg #[.bool q,.slice A N C,.slice A' N' C'],.bool true,.int .u8 1] W fun e W'=>e = .returned (.tuple #[.int .u64 (bb:Int),.int .u8 (fa:Int),.int .i64 0])∧Below W.heap.size W W')) (H6:Hid (∀ (W:World) (A:Option Addr) (N C:Nat) (A':Option Addr) (N' C':Nat),Below w.heap.size w W→Num W A N u→Num W A' N' v→Calls Tryz.prog 11 #[.agg #[.int .i64 (E:Int),.int .i64 (F:Int)],.agg #[.bool s,.slice A N C,.slice A' N' C'],.int .i64 (-1),.bool false,.int .u8 1] W fun e W'=>e = .returned (.tuple #[.int .u64 (ba:Int),.int .u8 (fa:Int),.int .i64 0])∧Below W.heap.size W W')) (H7:Hid (∀ (W:World) (A:Option Addr) (N C:Nat) (A':Option Addr) (N' C':Nat),Below w.heap.size w W→Num W A N u→Num W A' N' v→Calls Tryz.prog 9 #[.agg #[.int .i64 (E:Int),.int .i64 (F:Int)],.agg #[.bool s,.slice A N C,.slice A' N' C'],.bool false,.int .u8 1] W fun e W'=>e = .returned (.tuple #[.int .u64 (bd:Int),.int .u8 (fd:Int),.int .i64 0])∧Below W.heap.size W W')) (H8:Hid (∀ W:World,Below w.heap.size w W→Calls Tryz.prog 11 #[.agg #[.int .i64 (E:Int),.int .i64 (F:Int)],.agg #[.bool s,.slice a n c,.slice b k l],.int .i64 1,.bool false,.int .u8 1] W fun e W'=>e = .returned (.tuple #[.int .u64 (bd:Int),.int .u8 (fd:Int),.int .i64 0])∧Below W.heap.size W W')) :
  Calls Tryz.prog 4 #[.agg #[.int .i64 (E:Int),.int .i64 (F:Int)],.agg #[.bool s,.slice a n c,.slice b k l],.int .u8 1] w fun en w'=>en = .returned (.bool true)∧Below w.heap.size w w':=by
 have hsh:IntKind.u64.wrap (1 * 2 ^ min (t:Int).toNat 64) = (S:Int):=by rw [Int.toNat_natCast,Nat.min_eq_left (by omega),Int.one_mul,hs]; exact (wrux (x:=((2 ^ t:Nat):Int)) (by omega) (by rw [← hs]; omega))
 refine calls_sym Tryz.func4 rfl (by kernel_rfl) fun T hK=>?_
 replace hK:Kn T _ [(0,.agg #[.int .i64 (E:Int),.int .i64 (F:Int)]),(1,.agg #[.bool s,.slice a n c,.slice b k l]),(2,.int .u8 1)]:=hK
 have hS:=Fb.begin w
 have hG:GsAt [] w:=trivial
 refine wp_symQ hS hG hK (fun p1=>[.n 3 #[.int .i64 (E:Int),.int .i64 (F:Int)] 23,.n 4 #[.bool s,.slice a n c,.slice b k l] 35,.v 6 (.bool false)]) (fun p1=>[(2,.int .u8 1),(3,.pointer (some ⟨(p1 0).N,0,none⟩)),(4,.pointer (some ⟨(p1 1).N,0,none⟩)),(6,.bool false)]) (by kernel_rfl) (fun _ _=>by kernel_rfl) (fun _=>by kernel_rfl) (fun _=>by kernel_rfl) (fun p1=>?_) (fun p1 W1 T hF hK=>?_)
 ·iterate 2 refine ok_n (fun _=>by kernel_rfl) ?_
  refine ok_v (by kernel_rfl) ?_
  exact ok_nil
 replace hS:=SymF.fb hS hF [1000,1001] [⟨(p1 0).N,#[.int .i64 (E:Int),.int .i64 (F:Int)],23,true⟩,⟨(p1 1).N,#[.bool s,.slice a n c,.slice b k l],35,true⟩] (by kernel_rfl) (by kernel_rfl)
 replace hG:=hF.gx
 clear hF
 have z1:=hS.fr.size
 refine wp_symQ hS hG hK (fun p2=>[.c (some 29) (cV (.bool true)),.v 7 (.bool true)]) (fun p2=>[(2,.int .u8 1),(3,.pointer (some ⟨(p1 0).N,0,none⟩)),(4,.pointer (some ⟨(p1 1).N,0,none⟩)),(6,.bool false),(7,.bool true)]) (by kernel_rfl) (fun _ _=>by kernel_rfl) (fun _=>by kernel_rfl) (fun _=>by kernel_rfl) (fun p2=>?_) (fun p2 W2 T hF hK=>?_)
 ·refine ok_c (fun W cx=>as_v (salive_is _ (hT.kept cx.fr) (hN.kept cx.fr))) (by kernel_rfl) ?_
  refine ok_v (by kernel_rfl) ?_
  exact ok_nil
 replace hS:=SymF.fb hS hF [0,1] [⟨(p1 0).N,#[.int .i64 (E:Int),.int .i64 (F:Int)],23,true⟩,⟨(p1 1).N,#[.bool s,.slice a n c,.slice b k l],35,true⟩] (by kernel_rfl) (by kernel_rfl)
 replace hG:=hF.gx
 clear hF
 have z2:=hS.fr.size
 refine wp_symQ hS hG hK (fun p3=>[.l 30 (.agg #[.int .i64 (E:Int),.int .i64 (F:Int)]) 0 0,.l 31 (.agg #[.bool s,.slice a n c,.slice b k l]) 1 0,.c (some 32) (cV (.bool true)),.v 8 (.bool true)]) (fun p3=>[(2,.int .u8 1),(3,.pointer (some ⟨(p1 0).N,0,none⟩)),(4,.pointer (some ⟨(p1 1).N,0,none⟩)),(6,.bool false),(7,.bool true),(8,.bool true)]) (by kernel_rfl) (fun _ _=>by kernel_rfl) (fun _=>by kernel_rfl) (fun _=>by kernel_rfl) (fun p3=>?_) (fun p3 W3 T hF hK=>?_)
 ·iterate 2 refine ok_L (by kernel_rfl) (by kernel_rfl) (by kernel_rfl) ?_
  refine ok_c (fun W cx=>as_v (unhide H1 _ cx.fr)) (by kernel_rfl) ?_
  refine ok_v (by kernel_rfl) ?_
  exact ok_nil
 replace hS:=SymF.fb hS hF [0,1] [⟨(p1 0).N,#[.int .i64 (E:Int),.int .i64 (F:Int)],23,true⟩,⟨(p1 1).N,#[.bool s,.slice a n c,.slice b k l],35,true⟩] (by kernel_rfl) (by kernel_rfl)
 replace hG:=hF.gx
 clear hF
 have z3:=hS.fr.size
 refine wp_seq ?_
 refine wp_symQ hS hG hK (fun p4=>[.v 33 (.bool true),.v 34 (.bool false),.v 35 (.bool false),.v 36 (.int .u8 1),.v 37 (.bool false),.v 38 (.bool false)]) (fun p4=>[(2,.int .u8 1),(3,.pointer (some ⟨(p1 0).N,0,none⟩)),(4,.pointer (some ⟨(p1 1).N,0,none⟩)),(6,.bool false),(7,.bool true),(38,.bool false)]) (by kernel_rfl) (fun _ _=>by kernel_rfl) (fun _=>by kernel_rfl) (fun _=>by kernel_rfl) (fun p4=>?_) (fun p4 W4 T hF hK=>?_)
 ·iterate 6 refine ok_v (by kernel_rfl) ?_
  exact ok_nil
 replace hS:=SymF.fb hS hF [0,1] [⟨(p1 0).N,#[.int .i64 (E:Int),.int .i64 (F:Int)],23,true⟩,⟨(p1 1).N,#[.bool s,.slice a n c,.slice b k l],35,true⟩] (by kernel_rfl) (by kernel_rfl)
 replace hG:=hF.gx
 clear hF
 have z4:=hS.fr.size
 refine wp_cond_false (hK.ev 38 (by kernel_rfl) _ (by kernel_rfl)) ?_
 refine wp_skip ?_
 refine then_n ?_
 refine wp_symQ hS hG hK (fun p5=>[.n 40 #[.int .u8 0,.int .u8 1,.int .u8 2,.int .u8 4,.int .u8 3] (5000000+5),.v 41 (.int .u8 1),.v 42 (.pointer (some ⟨(p5 0).N,1,none⟩)),.l 43 (.int .u8 1) 1000 1,.v 9 (.int .u8 1)]) (fun p5=>[(2,.int .u8 1),(3,.pointer (some ⟨(p1 0).N,0,none⟩)),(4,.pointer (some ⟨(p1 1).N,0,none⟩)),(6,.bool false),(7,.bool true),(9,.int .u8 1),(38,.bool false)]) (by kernel_rfl) (fun _ _=>by kernel_rfl) (fun _=>by kernel_rfl) (fun _=>by kernel_rfl) (fun p5=>?_) (fun p5 W5 T hF hK=>?_)
 ·refine ok_n (fun _=>by kernel_rfl) ?_
  iterate 2 refine ok_v (by kernel_rfl) ?_
  refine ok_L (by kernel_rfl) (by kernel_rfl) (by kernel_rfl) ?_
  refine ok_v (by kernel_rfl) ?_
  exact ok_nil
 replace hS:=SymF.fb hS hF [0,1] [⟨(p1 0).N,#[.int .i64 (E:Int),.int .i64 (F:Int)],23,true⟩,⟨(p1 1).N,#[.bool s,.slice a n c,.slice b k l],35,true⟩] (by kernel_rfl) (by kernel_rfl)
 replace hG:=hF.gx
 clear hF
 have z5:=hS.fr.size
 refine wp_symQ hS hG hK (fun p6=>[.l 45 (.agg #[.bool s,.slice a n c,.slice b k l]) 1 0,.c (some 46) (cH W5.heap.size p d fun x9 y9=>.tuple #[.agg #[.bool q,x9,y9],.int .i64 0]),.v 44 (.tuple #[.agg #[.bool q,.slice (p6 1).A (p6 1).N (p6 1).C,.slice (p6 1).A' (p6 1).N' (p6 1).C'],.int .i64 0]),.v 47 (.agg #[.bool q,.slice (p6 1).A (p6 1).N (p6 1).C,.slice (p6 1).A' (p6 1).N' (p6 1).C']),.v 48 (.int .i64 0),.n 10 #[.bool false,.slice none 0 0,.slice none 0 0] 35,.p 1005 0 [.bool q,.slice (p6 1).A (p6 1).N (p6 1).C,.slice (p6 1).A' (p6 1).N' (p6 1).C'],.v 11 (.int .i64 0)]) (fun p6=>[(2,.int .u8 1),(3,.pointer (some ⟨(p1 0).N,0,none⟩)),(4,.pointer (some ⟨(p1 1).N,0,none⟩)),(6,.bool false),(7,.bool true),(9,.int .u8 1),(10,.pointer (some ⟨(p6 5).N,0,none⟩)),(11,.int .i64 0),(38,.bool false)]) (by kernel_rfl) (fun _ _=>by kernel_rfl) (fun _=>by kernel_rfl) (fun _=>by kernel_rfl) (fun p6=>?_) (fun p6 W6 T hF hK=>?_)
 ·refine ok_L (by kernel_rfl) (by kernel_rfl) (by kernel_rfl) ?_
  refine ok_c (fun W cx=>as_h cx.hb (unhide H2 _ cx.fr)) (by kernel_rfl) ?_
  iterate 3 refine ok_v (by kernel_rfl) ?_
  refine ok_n (fun _=>by kernel_rfl) ?_
  refine ok_P (by kernel_rfl) (by kernel_rfl) (by kernel_rfl) ?_
  refine ok_v (by kernel_rfl) ?_
  exact ok_nil
 replace hS:=SymF.fb hS hF [0,1,1005] [⟨(p1 0).N,#[.int .i64 (E:Int),.int .i64 (F:Int)],23,true⟩,⟨(p1 1).N,#[.bool s,.slice a n c,.slice b k l],35,true⟩,⟨(p6 5).N,#[.bool q,.slice (p6 1).A (p6 1).N (p6 1).C,.slice (p6 1).A' (p6 1).N' (p6 1).C'],35,true⟩] (by kernel_rfl) (by kernel_rfl)
 replace hG:GsAt (gM W5.heap.size (p6 1).A (p6 1).N (p6 1).C p :: gM W5.heap.size (p6 1).A' (p6 1).N' (p6 1).C' d :: _) W6:=⟨And.left (hF.fx 1),And.right (hF.fx 1),hF.gx⟩
 clear hF
 have z6:=hS.fr.size
 refine wp_symQ hS hG hK (fun p7=>[.l 50 (.agg #[.bool s,.slice a n c,.slice b k l]) 1 0,.c (some 51) (cH W6.heap.size u v fun x9 y9=>.tuple #[.agg #[.bool s,x9,y9],.int .i64 0]),.v 49 (.tuple #[.agg #[.bool s,.slice (p7 1).A (p7 1).N (p7 1).C,.slice (p7 1).A' (p7 1).N' (p7 1).C'],.int .i64 0]),.v 52 (.agg #[.bool s,.slice (p7 1).A (p7 1).N (p7 1).C,.slice (p7 1).A' (p7 1).N' (p7 1).C']),.v 53 (.int .i64 0),.n 12 #[.bool false,.slice none 0 0,.slice none 0 0] 35,.p 1005 0 [.bool s,.slice (p7 1).A (p7 1).N (p7 1).C,.slice (p7 1).A' (p7 1).N' (p7 1).C'],.v 13 (.int .i64 0)]) (fun p7=>[(2,.int .u8 1),(3,.pointer (some ⟨(p1 0).N,0,none⟩)),(4,.pointer (some ⟨(p1 1).N,0,none⟩)),(6,.bool false),(7,.bool true),(9,.int .u8 1),(10,.pointer (some ⟨(p6 5).N,0,none⟩)),(11,.int .i64 0),(12,.pointer (some ⟨(p7 5).N,0,none⟩)),(13,.int .i64 0),(38,.bool false)]) (by kernel_rfl) (fun _ _=>by kernel_rfl) (fun _=>by kernel_rfl) (fun _=>by kernel_rfl) (fun p7=>?_) (fun p7 W7 T hF hK=>?_)
 ·refine ok_L (by kernel_rfl) (by kernel_rfl) (by kernel_rfl) ?_
  refine ok_c (fun W cx=>as_h cx.hb (unhide H3 _ cx.fr)) (by kernel_rfl) ?_
  iterate 3 refine ok_v (by kernel_rfl) ?_
  refine ok_n (fun _=>by kernel_rfl) ?_
  refine ok_P (by kernel_rfl) (by kernel_rfl) (by kernel_rfl) ?_
  refine ok_v (by kernel_rfl) ?_
  exact ok_nil
 replace hS:=SymF.fb hS hF [0,1,2,1005] [⟨(p1 0).N,#[.int .i64 (E:Int),.int .i64 (F:Int)],23,true⟩,⟨(p1 1).N,#[.bool s,.slice a n c,.slice b k l],35,true⟩,⟨(p6 5).N,#[.bool q,.slice (p6 1).A (p6 1).N (p6 1).C,.slice (p6 1).A' (p6 1).N' (p6 1).C'],35,true⟩,⟨(p7 5).N,#[.bool s,.slice (p7 1).A (p7 1).N (p7 1).C,.slice (p7 1).A' (p7 1).N' (p7 1).C'],35,true⟩] (by kernel_rfl) (by kernel_rfl)
 replace hG:GsAt (gM W6.heap.size (p7 1).A (p7 1).N (p7 1).C u :: gM W6.heap.size (p7 1).A' (p7 1).N' (p7 1).C' v :: _) W7:=⟨And.left (hF.fx 1),And.right (hF.fx 1),hF.gx⟩
 clear hF
 have z7:=hS.fr.size
 refine wp_symQ hS hG hK (fun p8=>[.l 55 (.agg #[.int .i64 (E:Int),.int .i64 (F:Int)]) 0 0,.l 56 (.agg #[.bool s,.slice a n c,.slice b k l]) 1 0,.v 57 (.int .u8 1),.c (some 58) (cV (.tuple #[.int .u64 (ba:Int),.int .u8 (fa:Int),.int .i64 0])),.v 54 (.tuple #[.int .u64 (ba:Int),.int .u8 (fa:Int),.int .i64 0]),.v 59 (.int .u64 (ba:Int)),.v 60 (.int .u8 (fa:Int)),.v 61 (.int .i64 0),.v 14 (.int .u64 (ba:Int)),.v 15 (.int .u8 (fa:Int)),.v 16 (.int .i64 0)]) (fun p8=>[(2,.int .u8 1),(3,.pointer (some ⟨(p1 0).N,0,none⟩)),(4,.pointer (some ⟨(p1 1).N,0,none⟩)),(6,.bool false),(7,.bool true),(9,.int .u8 1),(10,.pointer (some ⟨(p6 5).N,0,none⟩)),(11,.int .i64 0),(12,.pointer (some ⟨(p7 5).N,0,none⟩)),(13,.int .i64 0),(14,.int .u64 (ba:Int)),(15,.int .u8 (fa:Int)),(16,.int .i64 0),(38,.bool false)]) (by kernel_rfl) (fun _ _=>by kernel_rfl) (fun _=>by kernel_rfl) (fun _=>by kernel_rfl) (fun p8=>?_) (fun p8 W8 T hF hK=>?_)
 ·iterate 2 refine ok_L (by kernel_rfl) (by kernel_rfl) (by kernel_rfl) ?_
  refine ok_v (by kernel_rfl) ?_
  refine ok_c (fun W cx=>as_v (unhide H4 _ cx.fr)) (by kernel_rfl) ?_
  iterate 7 refine ok_v (by kernel_rfl) ?_
  exact ok_nil
 replace hS:=SymF.fb hS hF [0,1,2,3] [⟨(p1 0).N,#[.int .i64 (E:Int),.int .i64 (F:Int)],23,true⟩,⟨(p1 1).N,#[.bool s,.slice a n c,.slice b k l],35,true⟩,⟨(p6 5).N,#[.bool q,.slice (p6 1).A (p6 1).N (p6 1).C,.slice (p6 1).A' (p6 1).N' (p6 1).C'],35,true⟩,⟨(p7 5).N,#[.bool s,.slice (p7 1).A (p7 1).N (p7 1).C,.slice (p7 1).A' (p7 1).N' (p7 1).C'],35,true⟩] (by kernel_rfl) (by kernel_rfl)
 replace hG:=hF.gx
 clear hF
 have z8:=hS.fr.size
 refine wp_symQ hS hG hK (fun p9=>[.l 63 (.agg #[.int .i64 (E:Int),.int .i64 (F:Int)]) 0 0,.l 64 (.agg #[.bool q,.slice (p6 1).A (p6 1).N (p6 1).C,.slice (p6 1).A' (p6 1).N' (p6 1).C']) 2 0,.v 65 (.int .u8 1),.c (some 66) (cV (.tuple #[.int .u64 (bb:Int),.int .u8 (fa:Int),.int .i64 0])),.v 62 (.tuple #[.int .u64 (bb:Int),.int .u8 (fa:Int),.int .i64 0]),.v 67 (.int .u64 (bb:Int)),.v 68 (.int .u8 (fa:Int)),.v 69 (.int .i64 0),.v 17 (.int .u64 (bb:Int)),.v 18 (.int .u8 (fa:Int)),.v 19 (.int .i64 0)]) (fun p9=>[(2,.int .u8 1),(3,.pointer (some ⟨(p1 0).N,0,none⟩)),(4,.pointer (some ⟨(p1 1).N,0,none⟩)),(6,.bool false),(7,.bool true),(11,.int .i64 0),(12,.pointer (some ⟨(p7 5).N,0,none⟩)),(13,.int .i64 0),(14,.int .u64 (ba:Int)),(15,.int .u8 (fa:Int)),(16,.int .i64 0),(17,.int .u64 (bb:Int)),(18,.int .u8 (fa:Int)),(19,.int .i64 0),(38,.bool false)]) (by kernel_rfl) (fun _ _=>by kernel_rfl) (fun _=>by kernel_rfl) (fun _=>by kernel_rfl) (fun p9=>?_) (fun p9 W9 T hF hK=>?_)
 ·iterate 2 refine ok_L (by kernel_rfl) (by kernel_rfl) (by kernel_rfl) ?_
  refine ok_v (by kernel_rfl) ?_
  refine ok_c (fun W cx=>as_v (unhide H5 _ _ _ (p6 1).C _ _ (p6 1).C' cx.fr (Mine.num cx.G.2.2.1) (Mine.num cx.G.2.2.2.1))) (by kernel_rfl) ?_
  iterate 7 refine ok_v (by kernel_rfl) ?_
  exact ok_nil
 replace hS:=SymF.fb hS hF [0,1,3] [⟨(p1 0).N,#[.int .i64 (E:Int),.int .i64 (F:Int)],23,true⟩,⟨(p1 1).N,#[.bool s,.slice a n c,.slice b k l],35,true⟩,⟨(p7 5).N,#[.bool s,.slice (p7 1).A (p7 1).N (p7 1).C,.slice (p7 1).A' (p7 1).N' (p7 1).C'],35,true⟩] (by kernel_rfl) (by kernel_rfl)
 replace hG:=hF.gx
 clear hF
 have z9:=hS.fr.size
 refine wp_symQ hS hG hK (fun p10=>[.l 71 (.agg #[.int .i64 (E:Int),.int .i64 (F:Int)]) 0 0,.l 72 (.agg #[.bool s,.slice (p7 1).A (p7 1).N (p7 1).C,.slice (p7 1).A' (p7 1).N' (p7 1).C']) 2 0,.v 73 (.int .u8 1),.c (some 74) (cV (.tuple #[.int .u64 (ba:Int),.int .u8 (fa:Int),.int .i64 0])),.v 70 (.tuple #[.int .u64 (ba:Int),.int .u8 (fa:Int),.int .i64 0]),.v 75 (.int .u64 (ba:Int)),.v 76 (.int .u8 (fa:Int)),.v 77 (.int .i64 0),.v 20 (.int .u64 (ba:Int)),.v 21 (.int .u8 (fa:Int)),.v 22 (.int .i64 0)]) (fun p10=>[(2,.int .u8 1),(3,.pointer (some ⟨(p1 0).N,0,none⟩)),(4,.pointer (some ⟨(p1 1).N,0,none⟩)),(6,.bool false),(7,.bool true),(11,.int .i64 0),(12,.pointer (some ⟨(p7 5).N,0,none⟩)),(13,.int .i64 0),(14,.int .u64 (ba:Int)),(15,.int .u8 (fa:Int)),(16,.int .i64 0),(17,.int .u64 (bb:Int)),(18,.int .u8 (fa:Int)),(19,.int .i64 0),(20,.int .u64 (ba:Int)),(21,.int .u8 (fa:Int)),(22,.int .i64 0),(38,.bool false)]) (by kernel_rfl) (fun _ _=>by kernel_rfl) (fun _=>by kernel_rfl) (fun _=>by kernel_rfl) (fun p10=>?_) (fun p10 W10 T hF hK=>?_)
 ·iterate 2 refine ok_L (by kernel_rfl) (by kernel_rfl) (by kernel_rfl) ?_
  refine ok_v (by kernel_rfl) ?_
  refine ok_c (fun W cx=>as_v (unhide H6 _ _ _ (p7 1).C _ _ (p7 1).C' cx.fr (Mine.num cx.G.1) (Mine.num cx.G.2.1))) (by kernel_rfl) ?_
  iterate 7 refine ok_v (by kernel_rfl) ?_
  exact ok_nil
 replace hS:=SymF.fb hS hF [0,1,2] [⟨(p1 0).N,#[.int .i64 (E:Int),.int .i64 (F:Int)],23,true⟩,⟨(p1 1).N,#[.bool s,.slice a n c,.slice b k l],35,true⟩,⟨(p7 5).N,#[.bool s,.slice (p7 1).A (p7 1).N (p7 1).C,.slice (p7 1).A' (p7 1).N' (p7 1).C'],35,true⟩] (by kernel_rfl) (by kernel_rfl)
 replace hG:=hF.gx
 clear hF
 have z10:=hS.fr.size
 refine wp_symQ hS hG hK (fun p11=>[.l 79 (.agg #[.int .i64 (E:Int),.int .i64 (F:Int)]) 0 0,.l 80 (.agg #[.bool s,.slice (p7 1).A (p7 1).N (p7 1).C,.slice (p7 1).A' (p7 1).N' (p7 1).C']) 2 0,.v 81 (.int .u8 1),.c (some 82) (cV (.tuple #[.int .u64 (bd:Int),.int .u8 (fd:Int),.int .i64 0])),.v 78 (.tuple #[.int .u64 (bd:Int),.int .u8 (fd:Int),.int .i64 0]),.v 83 (.int .u64 (bd:Int)),.v 84 (.int .u8 (fd:Int)),.v 85 (.int .i64 0),.v 23 (.int .u64 (bd:Int)),.v 24 (.int .u8 (fd:Int)),.v 25 (.int .i64 0)]) (fun p11=>[(2,.int .u8 1),(3,.pointer (some ⟨(p1 0).N,0,none⟩)),(4,.pointer (some ⟨(p1 1).N,0,none⟩)),(6,.bool false),(7,.bool true),(11,.int .i64 0),(13,.int .i64 0),(14,.int .u64 (ba:Int)),(15,.int .u8 (fa:Int)),(16,.int .i64 0),(17,.int .u64 (bb:Int)),(18,.int .u8 (fa:Int)),(19,.int .i64 0),(20,.int .u64 (ba:Int)),(21,.int .u8 (fa:Int)),(22,.int .i64 0),(23,.int .u64 (bd:Int)),(24,.int .u8 (fd:Int)),(25,.int .i64 0),(38,.bool false)]) (by kernel_rfl) (fun _ _=>by kernel_rfl) (fun _=>by kernel_rfl) (fun _=>by kernel_rfl) (fun p11=>?_) (fun p11 W11 T hF hK=>?_)
 ·iterate 2 refine ok_L (by kernel_rfl) (by kernel_rfl) (by kernel_rfl) ?_
  refine ok_v (by kernel_rfl) ?_
  refine ok_c (fun W cx=>as_v (unhide H7 _ _ _ (p7 1).C _ _ (p7 1).C' cx.fr (Mine.num cx.G.1) (Mine.num cx.G.2.1))) (by kernel_rfl) ?_
  iterate 7 refine ok_v (by kernel_rfl) ?_
  exact ok_nil
 replace hS:=SymF.fb hS hF [0,1] [⟨(p1 0).N,#[.int .i64 (E:Int),.int .i64 (F:Int)],23,true⟩,⟨(p1 1).N,#[.bool s,.slice a n c,.slice b k l],35,true⟩] (by kernel_rfl) (by kernel_rfl)
 replace hG:=hF.gx
 clear hF
 have z11:=hS.fr.size
 refine wp_symQ hS hG hK (fun p12=>[.l 87 (.agg #[.int .i64 (E:Int),.int .i64 (F:Int)]) 0 0,.l 88 (.agg #[.bool s,.slice a n c,.slice b k l]) 1 0,.v 89 (.int .u8 1),.c (some 90) (cV (.tuple #[.int .u64 (bd:Int),.int .u8 (fd:Int),.int .i64 0])),.v 86 (.tuple #[.int .u64 (bd:Int),.int .u8 (fd:Int),.int .i64 0]),.v 91 (.int .u64 (bd:Int)),.v 92 (.int .u8 (fd:Int)),.v 93 (.int .i64 0),.v 26 (.int .u64 (bd:Int)),.v 27 (.int .u8 (fd:Int)),.v 28 (.int .i64 0)]) (fun p12=>[(3,.pointer (some ⟨(p1 0).N,0,none⟩)),(6,.bool false),(7,.bool true),(11,.int .i64 0),(13,.int .i64 0),(14,.int .u64 (ba:Int)),(15,.int .u8 (fa:Int)),(16,.int .i64 0),(17,.int .u64 (bb:Int)),(18,.int .u8 (fa:Int)),(19,.int .i64 0),(20,.int .u64 (ba:Int)),(21,.int .u8 (fa:Int)),(22,.int .i64 0),(23,.int .u64 (bd:Int)),(24,.int .u8 (fd:Int)),(25,.int .i64 0),(26,.int .u64 (bd:Int)),(27,.int .u8 (fd:Int)),(28,.int .i64 0),(38,.bool false)]) (by kernel_rfl) (fun _ _=>by kernel_rfl) (fun _=>by kernel_rfl) (fun _=>by kernel_rfl) (fun p12=>?_) (fun p12 W12 T hF hK=>?_)
 ·iterate 2 refine ok_L (by kernel_rfl) (by kernel_rfl) (by kernel_rfl) ?_
  refine ok_v (by kernel_rfl) ?_
  refine ok_c (fun W cx=>as_v (unhide H8 _ cx.fr)) (by kernel_rfl) ?_
  iterate 7 refine ok_v (by kernel_rfl) ?_
  exact ok_nil
 replace hS:=SymF.fb hS hF [0] [⟨(p1 0).N,#[.int .i64 (E:Int),.int .i64 (F:Int)],23,true⟩] (by kernel_rfl) (by kernel_rfl)
 replace hG:=hF.gx
 clear hF
 have z12:=hS.fr.size
 refine wp_seq ?_
 refine wp_symQ hS hG hK (fun p13=>[.v 94 (.int .i64 0),.v 95 (.bool false),.v 96 (.bool false),.v 97 (.int .i64 0),.v 98 (.bool false),.v 99 (.bool false),.v 100 (.bool false),.v 101 (.int .i64 0),.v 102 (.bool false),.v 103 (.bool false),.v 104 (.bool false),.v 105 (.int .i64 0),.v 106 (.bool false),.v 107 (.bool false),.v 108 (.bool false),.v 109 (.int .i64 0),.v 110 (.bool false),.v 111 (.bool false),.v 112 (.bool false),.v 113 (.int .i64 0),.v 114 (.bool false),.v 115 (.bool false),.v 116 (.bool false),.v 117 (.int .i64 0),.v 118 (.bool false),.v 119 (.bool false)]) (fun p13=>[(3,.pointer (some ⟨(p1 0).N,0,none⟩)),(6,.bool false),(7,.bool true),(14,.int .u64 (ba:Int)),(15,.int .u8 (fa:Int)),(17,.int .u64 (bb:Int)),(18,.int .u8 (fa:Int)),(20,.int .u64 (ba:Int)),(21,.int .u8 (fa:Int)),(23,.int .u64 (bd:Int)),(24,.int .u8 (fd:Int)),(26,.int .u64 (bd:Int)),(27,.int .u8 (fd:Int)),(38,.bool false),(119,.bool false)]) (by kernel_rfl) (fun _ _=>by kernel_rfl) (fun _=>by kernel_rfl) (fun _=>by kernel_rfl) (fun p13=>?_) (fun p13 W13 T hF hK=>?_)
 ·iterate 26 refine ok_v (by kernel_rfl) ?_
  exact ok_nil
 replace hS:=SymF.fb hS hF [0] [⟨(p1 0).N,#[.int .i64 (E:Int),.int .i64 (F:Int)],23,true⟩] (by kernel_rfl) (by kernel_rfl)
 replace hG:=hF.gx
 clear hF
 have z13:=hS.fr.size
 refine wp_cond_false (hK.ev 119 (by kernel_rfl) _ (by kernel_rfl)) ?_
 refine wp_skip ?_
 refine then_n ?_
 refine wp_symQ hS hG hK (fun p14=>[.v 120 (.bool true),.v 121 (.bool true),.v 122 (.int .u64 (bb:Int)),.v 123 (.int .u64 (ba:Int)),.v 124 (.pointer (some ⟨(p1 0).N,0,none⟩)),.l 125 (.int .i64 (E:Int)) 0 0,.v 126 (.pointer (some ⟨(p1 0).N,1,none⟩)),.l 127 (.int .i64 (F:Int)) 0 1,.v 128 (.int .i64 (t:Int)),.v 129 (.int .u64 (t:Int)),.v 130 (.int .u64 (S:Int)),.v 131 (.int .u64 (bb:Int)),.v 132 (.bool true),.v 133 (.bool true),.v 134 (.bool true),.v 135 (.int .u8 (fa:Int)),.v 136 (.int .u8 (fa:Int)),.v 137 (.bool true),.v 138 (.bool true),.v 139 (.bool true),.v 140 (.int .u64 (ba:Int)),.v 141 (.int .u64 (ba:Int)),.v 142 (.bool true),.v 143 (.bool true),.v 144 (.bool true),.v 145 (.int .u8 (fa:Int)),.v 146 (.int .u8 (fa:Int)),.v 147 (.bool true),.v 148 (.bool true),.v 149 (.bool true),.v 150 (.int .u64 (bd:Int)),.v 151 (.int .u64 (bd:Int)),.v 152 (.bool true),.v 153 (.bool true),.v 154 (.bool true),.v 155 (.int .u8 (fd:Int)),.v 156 (.int .u8 (fd:Int)),.v 157 (.bool true),.v 158 (.bool true),.v 6 (.bool true)]) (fun p14=>[(6,.bool true),(7,.bool true),(38,.bool false),(119,.bool false)]) (by kernel_rfl) (fun _ _=>by kernel_rfl) (fun _=>by kernel_rfl) (fun _=>by kernel_rfl) (fun p14=>?_) (fun p14 W14 T hF hK=>?_)
 ·iterate 5 refine ok_v (by kernel_rfl) ?_
  refine ok_L (by kernel_rfl) (by kernel_rfl) (by kernel_rfl) ?_
  refine ok_v (by kernel_rfl) ?_
  refine ok_L (by kernel_rfl) (by kernel_rfl) (by kernel_rfl) ?_
  refine ok_vi ((wr64 (x:=(E:Int)+(F:Int)) (by omega) (by omega)).trans (by omega)) (by kernel_rfl) ?_
  refine ok_vi (wrux (x:=(t:Int)) (by omega) (by omega)) (by kernel_rfl) ?_
  refine ok_vi (hsh) (by kernel_rfl) ?_
  refine ok_vi (hx) (by kernel_rfl) ?_
  refine ok_vb (beq_self_eq_true (bb:Int)) (by kernel_rfl) ?_
  iterate 4 refine ok_v (by kernel_rfl) ?_
  refine ok_vb (beq_self_eq_true (fa:Int)) (by kernel_rfl) ?_
  iterate 4 refine ok_v (by kernel_rfl) ?_
  refine ok_vb (beq_self_eq_true (ba:Int)) (by kernel_rfl) ?_
  iterate 4 refine ok_v (by kernel_rfl) ?_
  refine ok_vb (beq_self_eq_true (fa:Int)) (by kernel_rfl) ?_
  iterate 4 refine ok_v (by kernel_rfl) ?_
  refine ok_vb (beq_self_eq_true (bd:Int)) (by kernel_rfl) ?_
  iterate 4 refine ok_v (by kernel_rfl) ?_
  refine ok_vb (beq_self_eq_true (fd:Int)) (by kernel_rfl) ?_
  iterate 2 refine ok_v (by kernel_rfl) ?_
  exact ok_nil
 replace hS:=SymF.fb hS hF [] [] (by kernel_rfl) (by kernel_rfl)
 replace hG:=hF.gx
 clear hF
 have z14:=hS.fr.size
 refine wp_ret ?_
 exact sym_end hS hK (.bool true) [] [] (by kernel_rfl) (by kernel_rfl) ⟨rfl,hS.fr⟩
theorem mir_2 (w:World) (E F:Nat) (s:Bool) (a b:Option Addr) (n c k l:Nat) (q:Bool) (t S p d u v ba bb bd fa fd:Nat) (hT:Tb w) (hN:Nb5 w) (ht:E+F = t) (h63:t≤63) (hs:S = 2 ^ t) (hB:S≤9223372036854775808) (hx:bits BinOp.xor .u64 (ba:Int) (S:Int) = (bb:Int)) (H1:Hid (∀ W:World,Below w.heap.size w W→Calls Tryz.prog 12 #[.agg #[.int .i64 (E:Int),.int .i64 (F:Int)],.agg #[.bool s,.slice a n c,.slice b k l]] W fun e W'=>e = .returned (.bool true)∧Below W.heap.size W W')) (H2:Hid (∀ W:World,Below w.heap.size w W→Calls Tryz.prog 13 #[.agg #[.bool s,.slice a n c,.slice b k l]] W fun en W'=>(∃ A N C A' N' C',en = .returned (.tuple #[.agg #[.bool q,.slice A N C,.slice A' N' C'],.int .i64 0])∧Mine W' W.heap.size A N C p∧Mine W' W.heap.size A' N' C' d)∧Below W.heap.size W W')) (H3:Hid (∀ W:World,Below w.heap.size w W→Calls Tryz.prog 8 #[.agg #[.bool s,.slice a n c,.slice b k l],.int .u32 10,.int .i64 1] W fun en W'=>(∃ A N C A' N' C',en = .returned (.tuple #[.agg #[.bool s,.slice A N C,.slice A' N' C'],.int .i64 0])∧Mine W' W.heap.size A N C u∧Mine W' W.heap.size A' N' C' v)∧Below W.heap.size W W')) (H4:Hid (∀ W:World,Below w.heap.size w W→Calls Tryz.prog 9 #[.agg #[.int .i64 (E:Int),.int .i64 (F:Int)],.agg #[.bool s,.slice a n c,.slice b k l],.bool false,.int .u8 2] W fun e W'=>e = .returned (.tuple #[.int .u64 (ba:Int),.int .u8 (fa:Int),.int .i64 0])∧Below W.heap.size W W')) (H5:Hid (∀ (W:World) (A:Option Addr) (N C:Nat) (A':Option Addr) (N' C':Nat),Below w.heap.size w W→Num W A N p→Num W A' N' d→Calls Tryz.prog 9 #[.agg #[.int .i64 (E:Int),.int .i64 (F:Int)],.agg #[.bool q,.slice A N C,.slice A' N' C'],.bool true,.int .u8 2] W fun e W'=>e = .returned (.tuple #[.int .u64 (bb:Int),.int .u8 (fa:Int),.int .i64 0])∧Below W.heap.size W W')) (H6:Hid (∀ (W:World) (A:Option Addr) (N C:Nat) (A':Option Addr) (N' C':Nat),Below w.heap.size w W→Num W A N u→Num W A' N' v→Calls Tryz.prog 11 #[.agg #[.int .i64 (E:Int),.int .i64 (F:Int)],.agg #[.bool s,.slice A N C,.slice A' N' C'],.int .i64 (-1),.bool false,.int .u8 2] W fun e W'=>e = .returned (.tuple #[.int .u64 (ba:Int),.int .u8 (fa:Int),.int .i64 0])∧Below W.heap.size W W')) (H7:Hid (∀ (W:World) (A:Option Addr) (N C:Nat) (A':Option Addr) (N' C':Nat),Below w.heap.size w W→Num W A N u→Num W A' N' v→Calls Tryz.prog 9 #[.agg #[.int .i64 (E:Int),.int .i64 (F:Int)],.agg #[.bool s,.slice A N C,.slice A' N' C'],.bool false,.int .u8 2] W fun e W'=>e = .returned (.tuple #[.int .u64 (bd:Int),.int .u8 (fd:Int),.int .i64 0])∧Below W.heap.size W W')) (H8:Hid (∀ W:World,Below w.heap.size w W→Calls Tryz.prog 11 #[.agg #[.int .i64 (E:Int),.int .i64 (F:Int)],.agg #[.bool s,.slice a n c,.slice b k l],.int .i64 1,.bool false,.int .u8 2] W fun e W'=>e = .returned (.tuple #[.int .u64 (bd:Int),.int .u8 (fd:Int),.int .i64 0])∧Below W.heap.size W W')) :
  Calls Tryz.prog 4 #[.agg #[.int .i64 (E:Int),.int .i64 (F:Int)],.agg #[.bool s,.slice a n c,.slice b k l],.int .u8 2] w fun en w'=>en = .returned (.bool true)∧Below w.heap.size w w':=by
 have hsh:IntKind.u64.wrap (1 * 2 ^ min (t:Int).toNat 64) = (S:Int):=by rw [Int.toNat_natCast,Nat.min_eq_left (by omega),Int.one_mul,hs]; exact (wrux (x:=((2 ^ t:Nat):Int)) (by omega) (by rw [← hs]; omega))
 refine calls_sym Tryz.func4 rfl (by kernel_rfl) fun T hK=>?_
 replace hK:Kn T _ [(0,.agg #[.int .i64 (E:Int),.int .i64 (F:Int)]),(1,.agg #[.bool s,.slice a n c,.slice b k l]),(2,.int .u8 2)]:=hK
 have hS:=Fb.begin w
 have hG:GsAt [] w:=trivial
 refine wp_symQ hS hG hK (fun p1=>[.n 3 #[.int .i64 (E:Int),.int .i64 (F:Int)] 23,.n 4 #[.bool s,.slice a n c,.slice b k l] 35,.v 6 (.bool false)]) (fun p1=>[(2,.int .u8 2),(3,.pointer (some ⟨(p1 0).N,0,none⟩)),(4,.pointer (some ⟨(p1 1).N,0,none⟩)),(6,.bool false)]) (by kernel_rfl) (fun _ _=>by kernel_rfl) (fun _=>by kernel_rfl) (fun _=>by kernel_rfl) (fun p1=>?_) (fun p1 W1 T hF hK=>?_)
 ·iterate 2 refine ok_n (fun _=>by kernel_rfl) ?_
  refine ok_v (by kernel_rfl) ?_
  exact ok_nil
 replace hS:=SymF.fb hS hF [1000,1001] [⟨(p1 0).N,#[.int .i64 (E:Int),.int .i64 (F:Int)],23,true⟩,⟨(p1 1).N,#[.bool s,.slice a n c,.slice b k l],35,true⟩] (by kernel_rfl) (by kernel_rfl)
 replace hG:=hF.gx
 clear hF
 have z1:=hS.fr.size
 refine wp_symQ hS hG hK (fun p2=>[.c (some 29) (cV (.bool true)),.v 7 (.bool true)]) (fun p2=>[(2,.int .u8 2),(3,.pointer (some ⟨(p1 0).N,0,none⟩)),(4,.pointer (some ⟨(p1 1).N,0,none⟩)),(6,.bool false),(7,.bool true)]) (by kernel_rfl) (fun _ _=>by kernel_rfl) (fun _=>by kernel_rfl) (fun _=>by kernel_rfl) (fun p2=>?_) (fun p2 W2 T hF hK=>?_)
 ·refine ok_c (fun W cx=>as_v (salive_is _ (hT.kept cx.fr) (hN.kept cx.fr))) (by kernel_rfl) ?_
  refine ok_v (by kernel_rfl) ?_
  exact ok_nil
 replace hS:=SymF.fb hS hF [0,1] [⟨(p1 0).N,#[.int .i64 (E:Int),.int .i64 (F:Int)],23,true⟩,⟨(p1 1).N,#[.bool s,.slice a n c,.slice b k l],35,true⟩] (by kernel_rfl) (by kernel_rfl)
 replace hG:=hF.gx
 clear hF
 have z2:=hS.fr.size
 refine wp_symQ hS hG hK (fun p3=>[.l 30 (.agg #[.int .i64 (E:Int),.int .i64 (F:Int)]) 0 0,.l 31 (.agg #[.bool s,.slice a n c,.slice b k l]) 1 0,.c (some 32) (cV (.bool true)),.v 8 (.bool true)]) (fun p3=>[(2,.int .u8 2),(3,.pointer (some ⟨(p1 0).N,0,none⟩)),(4,.pointer (some ⟨(p1 1).N,0,none⟩)),(6,.bool false),(7,.bool true),(8,.bool true)]) (by kernel_rfl) (fun _ _=>by kernel_rfl) (fun _=>by kernel_rfl) (fun _=>by kernel_rfl) (fun p3=>?_) (fun p3 W3 T hF hK=>?_)
 ·iterate 2 refine ok_L (by kernel_rfl) (by kernel_rfl) (by kernel_rfl) ?_
  refine ok_c (fun W cx=>as_v (unhide H1 _ cx.fr)) (by kernel_rfl) ?_
  refine ok_v (by kernel_rfl) ?_
  exact ok_nil
 replace hS:=SymF.fb hS hF [0,1] [⟨(p1 0).N,#[.int .i64 (E:Int),.int .i64 (F:Int)],23,true⟩,⟨(p1 1).N,#[.bool s,.slice a n c,.slice b k l],35,true⟩] (by kernel_rfl) (by kernel_rfl)
 replace hG:=hF.gx
 clear hF
 have z3:=hS.fr.size
 refine wp_seq ?_
 refine wp_symQ hS hG hK (fun p4=>[.v 33 (.bool true),.v 34 (.bool false),.v 35 (.bool false),.v 36 (.int .u8 2),.v 37 (.bool false),.v 38 (.bool false)]) (fun p4=>[(2,.int .u8 2),(3,.pointer (some ⟨(p1 0).N,0,none⟩)),(4,.pointer (some ⟨(p1 1).N,0,none⟩)),(6,.bool false),(7,.bool true),(38,.bool false)]) (by kernel_rfl) (fun _ _=>by kernel_rfl) (fun _=>by kernel_rfl) (fun _=>by kernel_rfl) (fun p4=>?_) (fun p4 W4 T hF hK=>?_)
 ·iterate 6 refine ok_v (by kernel_rfl) ?_
  exact ok_nil
 replace hS:=SymF.fb hS hF [0,1] [⟨(p1 0).N,#[.int .i64 (E:Int),.int .i64 (F:Int)],23,true⟩,⟨(p1 1).N,#[.bool s,.slice a n c,.slice b k l],35,true⟩] (by kernel_rfl) (by kernel_rfl)
 replace hG:=hF.gx
 clear hF
 have z4:=hS.fr.size
 refine wp_cond_false (hK.ev 38 (by kernel_rfl) _ (by kernel_rfl)) ?_
 refine wp_skip ?_
 refine then_n ?_
 refine wp_symQ hS hG hK (fun p5=>[.n 40 #[.int .u8 0,.int .u8 1,.int .u8 2,.int .u8 4,.int .u8 3] (5000000+5),.v 41 (.int .u8 2),.v 42 (.pointer (some ⟨(p5 0).N,2,none⟩)),.l 43 (.int .u8 2) 1000 2,.v 9 (.int .u8 2)]) (fun p5=>[(2,.int .u8 2),(3,.pointer (some ⟨(p1 0).N,0,none⟩)),(4,.pointer (some ⟨(p1 1).N,0,none⟩)),(6,.bool false),(7,.bool true),(9,.int .u8 2),(38,.bool false)]) (by kernel_rfl) (fun _ _=>by kernel_rfl) (fun _=>by kernel_rfl) (fun _=>by kernel_rfl) (fun p5=>?_) (fun p5 W5 T hF hK=>?_)
 ·refine ok_n (fun _=>by kernel_rfl) ?_
  iterate 2 refine ok_v (by kernel_rfl) ?_
  refine ok_L (by kernel_rfl) (by kernel_rfl) (by kernel_rfl) ?_
  refine ok_v (by kernel_rfl) ?_
  exact ok_nil
 replace hS:=SymF.fb hS hF [0,1] [⟨(p1 0).N,#[.int .i64 (E:Int),.int .i64 (F:Int)],23,true⟩,⟨(p1 1).N,#[.bool s,.slice a n c,.slice b k l],35,true⟩] (by kernel_rfl) (by kernel_rfl)
 replace hG:=hF.gx
 clear hF
 have z5:=hS.fr.size
 refine wp_symQ hS hG hK (fun p6=>[.l 45 (.agg #[.bool s,.slice a n c,.slice b k l]) 1 0,.c (some 46) (cH W5.heap.size p d fun x9 y9=>.tuple #[.agg #[.bool q,x9,y9],.int .i64 0]),.v 44 (.tuple #[.agg #[.bool q,.slice (p6 1).A (p6 1).N (p6 1).C,.slice (p6 1).A' (p6 1).N' (p6 1).C'],.int .i64 0]),.v 47 (.agg #[.bool q,.slice (p6 1).A (p6 1).N (p6 1).C,.slice (p6 1).A' (p6 1).N' (p6 1).C']),.v 48 (.int .i64 0),.n 10 #[.bool false,.slice none 0 0,.slice none 0 0] 35,.p 1005 0 [.bool q,.slice (p6 1).A (p6 1).N (p6 1).C,.slice (p6 1).A' (p6 1).N' (p6 1).C'],.v 11 (.int .i64 0)]) (fun p6=>[(2,.int .u8 2),(3,.pointer (some ⟨(p1 0).N,0,none⟩)),(4,.pointer (some ⟨(p1 1).N,0,none⟩)),(6,.bool false),(7,.bool true),(9,.int .u8 2),(10,.pointer (some ⟨(p6 5).N,0,none⟩)),(11,.int .i64 0),(38,.bool false)]) (by kernel_rfl) (fun _ _=>by kernel_rfl) (fun _=>by kernel_rfl) (fun _=>by kernel_rfl) (fun p6=>?_) (fun p6 W6 T hF hK=>?_)
 ·refine ok_L (by kernel_rfl) (by kernel_rfl) (by kernel_rfl) ?_
  refine ok_c (fun W cx=>as_h cx.hb (unhide H2 _ cx.fr)) (by kernel_rfl) ?_
  iterate 3 refine ok_v (by kernel_rfl) ?_
  refine ok_n (fun _=>by kernel_rfl) ?_
  refine ok_P (by kernel_rfl) (by kernel_rfl) (by kernel_rfl) ?_
  refine ok_v (by kernel_rfl) ?_
  exact ok_nil
 replace hS:=SymF.fb hS hF [0,1,1005] [⟨(p1 0).N,#[.int .i64 (E:Int),.int .i64 (F:Int)],23,true⟩,⟨(p1 1).N,#[.bool s,.slice a n c,.slice b k l],35,true⟩,⟨(p6 5).N,#[.bool q,.slice (p6 1).A (p6 1).N (p6 1).C,.slice (p6 1).A' (p6 1).N' (p6 1).C'],35,true⟩] (by kernel_rfl) (by kernel_rfl)
 replace hG:GsAt (gM W5.heap.size (p6 1).A (p6 1).N (p6 1).C p :: gM W5.heap.size (p6 1).A' (p6 1).N' (p6 1).C' d :: _) W6:=⟨And.left (hF.fx 1),And.right (hF.fx 1),hF.gx⟩
 clear hF
 have z6:=hS.fr.size
 refine wp_symQ hS hG hK (fun p7=>[.l 50 (.agg #[.bool s,.slice a n c,.slice b k l]) 1 0,.c (some 51) (cH W6.heap.size u v fun x9 y9=>.tuple #[.agg #[.bool s,x9,y9],.int .i64 0]),.v 49 (.tuple #[.agg #[.bool s,.slice (p7 1).A (p7 1).N (p7 1).C,.slice (p7 1).A' (p7 1).N' (p7 1).C'],.int .i64 0]),.v 52 (.agg #[.bool s,.slice (p7 1).A (p7 1).N (p7 1).C,.slice (p7 1).A' (p7 1).N' (p7 1).C']),.v 53 (.int .i64 0),.n 12 #[.bool false,.slice none 0 0,.slice none 0 0] 35,.p 1005 0 [.bool s,.slice (p7 1).A (p7 1).N (p7 1).C,.slice (p7 1).A' (p7 1).N' (p7 1).C'],.v 13 (.int .i64 0)]) (fun p7=>[(2,.int .u8 2),(3,.pointer (some ⟨(p1 0).N,0,none⟩)),(4,.pointer (some ⟨(p1 1).N,0,none⟩)),(6,.bool false),(7,.bool true),(9,.int .u8 2),(10,.pointer (some ⟨(p6 5).N,0,none⟩)),(11,.int .i64 0),(12,.pointer (some ⟨(p7 5).N,0,none⟩)),(13,.int .i64 0),(38,.bool false)]) (by kernel_rfl) (fun _ _=>by kernel_rfl) (fun _=>by kernel_rfl) (fun _=>by kernel_rfl) (fun p7=>?_) (fun p7 W7 T hF hK=>?_)
 ·refine ok_L (by kernel_rfl) (by kernel_rfl) (by kernel_rfl) ?_
  refine ok_c (fun W cx=>as_h cx.hb (unhide H3 _ cx.fr)) (by kernel_rfl) ?_
  iterate 3 refine ok_v (by kernel_rfl) ?_
  refine ok_n (fun _=>by kernel_rfl) ?_
  refine ok_P (by kernel_rfl) (by kernel_rfl) (by kernel_rfl) ?_
  refine ok_v (by kernel_rfl) ?_
  exact ok_nil
 replace hS:=SymF.fb hS hF [0,1,2,1005] [⟨(p1 0).N,#[.int .i64 (E:Int),.int .i64 (F:Int)],23,true⟩,⟨(p1 1).N,#[.bool s,.slice a n c,.slice b k l],35,true⟩,⟨(p6 5).N,#[.bool q,.slice (p6 1).A (p6 1).N (p6 1).C,.slice (p6 1).A' (p6 1).N' (p6 1).C'],35,true⟩,⟨(p7 5).N,#[.bool s,.slice (p7 1).A (p7 1).N (p7 1).C,.slice (p7 1).A' (p7 1).N' (p7 1).C'],35,true⟩] (by kernel_rfl) (by kernel_rfl)
 replace hG:GsAt (gM W6.heap.size (p7 1).A (p7 1).N (p7 1).C u :: gM W6.heap.size (p7 1).A' (p7 1).N' (p7 1).C' v :: _) W7:=⟨And.left (hF.fx 1),And.right (hF.fx 1),hF.gx⟩
 clear hF
 have z7:=hS.fr.size
 refine wp_symQ hS hG hK (fun p8=>[.l 55 (.agg #[.int .i64 (E:Int),.int .i64 (F:Int)]) 0 0,.l 56 (.agg #[.bool s,.slice a n c,.slice b k l]) 1 0,.v 57 (.int .u8 2),.c (some 58) (cV (.tuple #[.int .u64 (ba:Int),.int .u8 (fa:Int),.int .i64 0])),.v 54 (.tuple #[.int .u64 (ba:Int),.int .u8 (fa:Int),.int .i64 0]),.v 59 (.int .u64 (ba:Int)),.v 60 (.int .u8 (fa:Int)),.v 61 (.int .i64 0),.v 14 (.int .u64 (ba:Int)),.v 15 (.int .u8 (fa:Int)),.v 16 (.int .i64 0)]) (fun p8=>[(2,.int .u8 2),(3,.pointer (some ⟨(p1 0).N,0,none⟩)),(4,.pointer (some ⟨(p1 1).N,0,none⟩)),(6,.bool false),(7,.bool true),(9,.int .u8 2),(10,.pointer (some ⟨(p6 5).N,0,none⟩)),(11,.int .i64 0),(12,.pointer (some ⟨(p7 5).N,0,none⟩)),(13,.int .i64 0),(14,.int .u64 (ba:Int)),(15,.int .u8 (fa:Int)),(16,.int .i64 0),(38,.bool false)]) (by kernel_rfl) (fun _ _=>by kernel_rfl) (fun _=>by kernel_rfl) (fun _=>by kernel_rfl) (fun p8=>?_) (fun p8 W8 T hF hK=>?_)
 ·iterate 2 refine ok_L (by kernel_rfl) (by kernel_rfl) (by kernel_rfl) ?_
  refine ok_v (by kernel_rfl) ?_
  refine ok_c (fun W cx=>as_v (unhide H4 _ cx.fr)) (by kernel_rfl) ?_
  iterate 7 refine ok_v (by kernel_rfl) ?_
  exact ok_nil
 replace hS:=SymF.fb hS hF [0,1,2,3] [⟨(p1 0).N,#[.int .i64 (E:Int),.int .i64 (F:Int)],23,true⟩,⟨(p1 1).N,#[.bool s,.slice a n c,.slice b k l],35,true⟩,⟨(p6 5).N,#[.bool q,.slice (p6 1).A (p6 1).N (p6 1).C,.slice (p6 1).A' (p6 1).N' (p6 1).C'],35,true⟩,⟨(p7 5).N,#[.bool s,.slice (p7 1).A (p7 1).N (p7 1).C,.slice (p7 1).A' (p7 1).N' (p7 1).C'],35,true⟩] (by kernel_rfl) (by kernel_rfl)
 replace hG:=hF.gx
 clear hF
 have z8:=hS.fr.size
 refine wp_symQ hS hG hK (fun p9=>[.l 63 (.agg #[.int .i64 (E:Int),.int .i64 (F:Int)]) 0 0,.l 64 (.agg #[.bool q,.slice (p6 1).A (p6 1).N (p6 1).C,.slice (p6 1).A' (p6 1).N' (p6 1).C']) 2 0,.v 65 (.int .u8 2),.c (some 66) (cV (.tuple #[.int .u64 (bb:Int),.int .u8 (fa:Int),.int .i64 0])),.v 62 (.tuple #[.int .u64 (bb:Int),.int .u8 (fa:Int),.int .i64 0]),.v 67 (.int .u64 (bb:Int)),.v 68 (.int .u8 (fa:Int)),.v 69 (.int .i64 0),.v 17 (.int .u64 (bb:Int)),.v 18 (.int .u8 (fa:Int)),.v 19 (.int .i64 0)]) (fun p9=>[(2,.int .u8 2),(3,.pointer (some ⟨(p1 0).N,0,none⟩)),(4,.pointer (some ⟨(p1 1).N,0,none⟩)),(6,.bool false),(7,.bool true),(11,.int .i64 0),(12,.pointer (some ⟨(p7 5).N,0,none⟩)),(13,.int .i64 0),(14,.int .u64 (ba:Int)),(15,.int .u8 (fa:Int)),(16,.int .i64 0),(17,.int .u64 (bb:Int)),(18,.int .u8 (fa:Int)),(19,.int .i64 0),(38,.bool false)]) (by kernel_rfl) (fun _ _=>by kernel_rfl) (fun _=>by kernel_rfl) (fun _=>by kernel_rfl) (fun p9=>?_) (fun p9 W9 T hF hK=>?_)
 ·iterate 2 refine ok_L (by kernel_rfl) (by kernel_rfl) (by kernel_rfl) ?_
  refine ok_v (by kernel_rfl) ?_
  refine ok_c (fun W cx=>as_v (unhide H5 _ _ _ (p6 1).C _ _ (p6 1).C' cx.fr (Mine.num cx.G.2.2.1) (Mine.num cx.G.2.2.2.1))) (by kernel_rfl) ?_
  iterate 7 refine ok_v (by kernel_rfl) ?_
  exact ok_nil
 replace hS:=SymF.fb hS hF [0,1,3] [⟨(p1 0).N,#[.int .i64 (E:Int),.int .i64 (F:Int)],23,true⟩,⟨(p1 1).N,#[.bool s,.slice a n c,.slice b k l],35,true⟩,⟨(p7 5).N,#[.bool s,.slice (p7 1).A (p7 1).N (p7 1).C,.slice (p7 1).A' (p7 1).N' (p7 1).C'],35,true⟩] (by kernel_rfl) (by kernel_rfl)
 replace hG:=hF.gx
 clear hF
 have z9:=hS.fr.size
 refine wp_symQ hS hG hK (fun p10=>[.l 71 (.agg #[.int .i64 (E:Int),.int .i64 (F:Int)]) 0 0,.l 72 (.agg #[.bool s,.slice (p7 1).A (p7 1).N (p7 1).C,.slice (p7 1).A' (p7 1).N' (p7 1).C']) 2 0,.v 73 (.int .u8 2),.c (some 74) (cV (.tuple #[.int .u64 (ba:Int),.int .u8 (fa:Int),.int .i64 0])),.v 70 (.tuple #[.int .u64 (ba:Int),.int .u8 (fa:Int),.int .i64 0]),.v 75 (.int .u64 (ba:Int)),.v 76 (.int .u8 (fa:Int)),.v 77 (.int .i64 0),.v 20 (.int .u64 (ba:Int)),.v 21 (.int .u8 (fa:Int)),.v 22 (.int .i64 0)]) (fun p10=>[(2,.int .u8 2),(3,.pointer (some ⟨(p1 0).N,0,none⟩)),(4,.pointer (some ⟨(p1 1).N,0,none⟩)),(6,.bool false),(7,.bool true),(11,.int .i64 0),(12,.pointer (some ⟨(p7 5).N,0,none⟩)),(13,.int .i64 0),(14,.int .u64 (ba:Int)),(15,.int .u8 (fa:Int)),(16,.int .i64 0),(17,.int .u64 (bb:Int)),(18,.int .u8 (fa:Int)),(19,.int .i64 0),(20,.int .u64 (ba:Int)),(21,.int .u8 (fa:Int)),(22,.int .i64 0),(38,.bool false)]) (by kernel_rfl) (fun _ _=>by kernel_rfl) (fun _=>by kernel_rfl) (fun _=>by kernel_rfl) (fun p10=>?_) (fun p10 W10 T hF hK=>?_)
 ·iterate 2 refine ok_L (by kernel_rfl) (by kernel_rfl) (by kernel_rfl) ?_
  refine ok_v (by kernel_rfl) ?_
  refine ok_c (fun W cx=>as_v (unhide H6 _ _ _ (p7 1).C _ _ (p7 1).C' cx.fr (Mine.num cx.G.1) (Mine.num cx.G.2.1))) (by kernel_rfl) ?_
  iterate 7 refine ok_v (by kernel_rfl) ?_
  exact ok_nil
 replace hS:=SymF.fb hS hF [0,1,2] [⟨(p1 0).N,#[.int .i64 (E:Int),.int .i64 (F:Int)],23,true⟩,⟨(p1 1).N,#[.bool s,.slice a n c,.slice b k l],35,true⟩,⟨(p7 5).N,#[.bool s,.slice (p7 1).A (p7 1).N (p7 1).C,.slice (p7 1).A' (p7 1).N' (p7 1).C'],35,true⟩] (by kernel_rfl) (by kernel_rfl)
 replace hG:=hF.gx
 clear hF
 have z10:=hS.fr.size
 refine wp_symQ hS hG hK (fun p11=>[.l 79 (.agg #[.int .i64 (E:Int),.int .i64 (F:Int)]) 0 0,.l 80 (.agg #[.bool s,.slice (p7 1).A (p7 1).N (p7 1).C,.slice (p7 1).A' (p7 1).N' (p7 1).C']) 2 0,.v 81 (.int .u8 2),.c (some 82) (cV (.tuple #[.int .u64 (bd:Int),.int .u8 (fd:Int),.int .i64 0])),.v 78 (.tuple #[.int .u64 (bd:Int),.int .u8 (fd:Int),.int .i64 0]),.v 83 (.int .u64 (bd:Int)),.v 84 (.int .u8 (fd:Int)),.v 85 (.int .i64 0),.v 23 (.int .u64 (bd:Int)),.v 24 (.int .u8 (fd:Int)),.v 25 (.int .i64 0)]) (fun p11=>[(2,.int .u8 2),(3,.pointer (some ⟨(p1 0).N,0,none⟩)),(4,.pointer (some ⟨(p1 1).N,0,none⟩)),(6,.bool false),(7,.bool true),(11,.int .i64 0),(13,.int .i64 0),(14,.int .u64 (ba:Int)),(15,.int .u8 (fa:Int)),(16,.int .i64 0),(17,.int .u64 (bb:Int)),(18,.int .u8 (fa:Int)),(19,.int .i64 0),(20,.int .u64 (ba:Int)),(21,.int .u8 (fa:Int)),(22,.int .i64 0),(23,.int .u64 (bd:Int)),(24,.int .u8 (fd:Int)),(25,.int .i64 0),(38,.bool false)]) (by kernel_rfl) (fun _ _=>by kernel_rfl) (fun _=>by kernel_rfl) (fun _=>by kernel_rfl) (fun p11=>?_) (fun p11 W11 T hF hK=>?_)
 ·iterate 2 refine ok_L (by kernel_rfl) (by kernel_rfl) (by kernel_rfl) ?_
  refine ok_v (by kernel_rfl) ?_
  refine ok_c (fun W cx=>as_v (unhide H7 _ _ _ (p7 1).C _ _ (p7 1).C' cx.fr (Mine.num cx.G.1) (Mine.num cx.G.2.1))) (by kernel_rfl) ?_
  iterate 7 refine ok_v (by kernel_rfl) ?_
  exact ok_nil
 replace hS:=SymF.fb hS hF [0,1] [⟨(p1 0).N,#[.int .i64 (E:Int),.int .i64 (F:Int)],23,true⟩,⟨(p1 1).N,#[.bool s,.slice a n c,.slice b k l],35,true⟩] (by kernel_rfl) (by kernel_rfl)
 replace hG:=hF.gx
 clear hF
 have z11:=hS.fr.size
 refine wp_symQ hS hG hK (fun p12=>[.l 87 (.agg #[.int .i64 (E:Int),.int .i64 (F:Int)]) 0 0,.l 88 (.agg #[.bool s,.slice a n c,.slice b k l]) 1 0,.v 89 (.int .u8 2),.c (some 90) (cV (.tuple #[.int .u64 (bd:Int),.int .u8 (fd:Int),.int .i64 0])),.v 86 (.tuple #[.int .u64 (bd:Int),.int .u8 (fd:Int),.int .i64 0]),.v 91 (.int .u64 (bd:Int)),.v 92 (.int .u8 (fd:Int)),.v 93 (.int .i64 0),.v 26 (.int .u64 (bd:Int)),.v 27 (.int .u8 (fd:Int)),.v 28 (.int .i64 0)]) (fun p12=>[(3,.pointer (some ⟨(p1 0).N,0,none⟩)),(6,.bool false),(7,.bool true),(11,.int .i64 0),(13,.int .i64 0),(14,.int .u64 (ba:Int)),(15,.int .u8 (fa:Int)),(16,.int .i64 0),(17,.int .u64 (bb:Int)),(18,.int .u8 (fa:Int)),(19,.int .i64 0),(20,.int .u64 (ba:Int)),(21,.int .u8 (fa:Int)),(22,.int .i64 0),(23,.int .u64 (bd:Int)),(24,.int .u8 (fd:Int)),(25,.int .i64 0),(26,.int .u64 (bd:Int)),(27,.int .u8 (fd:Int)),(28,.int .i64 0),(38,.bool false)]) (by kernel_rfl) (fun _ _=>by kernel_rfl) (fun _=>by kernel_rfl) (fun _=>by kernel_rfl) (fun p12=>?_) (fun p12 W12 T hF hK=>?_)
 ·iterate 2 refine ok_L (by kernel_rfl) (by kernel_rfl) (by kernel_rfl) ?_
  refine ok_v (by kernel_rfl) ?_
  refine ok_c (fun W cx=>as_v (unhide H8 _ cx.fr)) (by kernel_rfl) ?_
  iterate 7 refine ok_v (by kernel_rfl) ?_
  exact ok_nil
 replace hS:=SymF.fb hS hF [0] [⟨(p1 0).N,#[.int .i64 (E:Int),.int .i64 (F:Int)],23,true⟩] (by kernel_rfl) (by kernel_rfl)
 replace hG:=hF.gx
 clear hF
 have z12:=hS.fr.size
 refine wp_seq ?_
 refine wp_symQ hS hG hK (fun p13=>[.v 94 (.int .i64 0),.v 95 (.bool false),.v 96 (.bool false),.v 97 (.int .i64 0),.v 98 (.bool false),.v 99 (.bool false),.v 100 (.bool false),.v 101 (.int .i64 0),.v 102 (.bool false),.v 103 (.bool false),.v 104 (.bool false),.v 105 (.int .i64 0),.v 106 (.bool false),.v 107 (.bool false),.v 108 (.bool false),.v 109 (.int .i64 0),.v 110 (.bool false),.v 111 (.bool false),.v 112 (.bool false),.v 113 (.int .i64 0),.v 114 (.bool false),.v 115 (.bool false),.v 116 (.bool false),.v 117 (.int .i64 0),.v 118 (.bool false),.v 119 (.bool false)]) (fun p13=>[(3,.pointer (some ⟨(p1 0).N,0,none⟩)),(6,.bool false),(7,.bool true),(14,.int .u64 (ba:Int)),(15,.int .u8 (fa:Int)),(17,.int .u64 (bb:Int)),(18,.int .u8 (fa:Int)),(20,.int .u64 (ba:Int)),(21,.int .u8 (fa:Int)),(23,.int .u64 (bd:Int)),(24,.int .u8 (fd:Int)),(26,.int .u64 (bd:Int)),(27,.int .u8 (fd:Int)),(38,.bool false),(119,.bool false)]) (by kernel_rfl) (fun _ _=>by kernel_rfl) (fun _=>by kernel_rfl) (fun _=>by kernel_rfl) (fun p13=>?_) (fun p13 W13 T hF hK=>?_)
 ·iterate 26 refine ok_v (by kernel_rfl) ?_
  exact ok_nil
 replace hS:=SymF.fb hS hF [0] [⟨(p1 0).N,#[.int .i64 (E:Int),.int .i64 (F:Int)],23,true⟩] (by kernel_rfl) (by kernel_rfl)
 replace hG:=hF.gx
 clear hF
 have z13:=hS.fr.size
 refine wp_cond_false (hK.ev 119 (by kernel_rfl) _ (by kernel_rfl)) ?_
 refine wp_skip ?_
 refine then_n ?_
 refine wp_symQ hS hG hK (fun p14=>[.v 120 (.bool true),.v 121 (.bool true),.v 122 (.int .u64 (bb:Int)),.v 123 (.int .u64 (ba:Int)),.v 124 (.pointer (some ⟨(p1 0).N,0,none⟩)),.l 125 (.int .i64 (E:Int)) 0 0,.v 126 (.pointer (some ⟨(p1 0).N,1,none⟩)),.l 127 (.int .i64 (F:Int)) 0 1,.v 128 (.int .i64 (t:Int)),.v 129 (.int .u64 (t:Int)),.v 130 (.int .u64 (S:Int)),.v 131 (.int .u64 (bb:Int)),.v 132 (.bool true),.v 133 (.bool true),.v 134 (.bool true),.v 135 (.int .u8 (fa:Int)),.v 136 (.int .u8 (fa:Int)),.v 137 (.bool true),.v 138 (.bool true),.v 139 (.bool true),.v 140 (.int .u64 (ba:Int)),.v 141 (.int .u64 (ba:Int)),.v 142 (.bool true),.v 143 (.bool true),.v 144 (.bool true),.v 145 (.int .u8 (fa:Int)),.v 146 (.int .u8 (fa:Int)),.v 147 (.bool true),.v 148 (.bool true),.v 149 (.bool true),.v 150 (.int .u64 (bd:Int)),.v 151 (.int .u64 (bd:Int)),.v 152 (.bool true),.v 153 (.bool true),.v 154 (.bool true),.v 155 (.int .u8 (fd:Int)),.v 156 (.int .u8 (fd:Int)),.v 157 (.bool true),.v 158 (.bool true),.v 6 (.bool true)]) (fun p14=>[(6,.bool true),(7,.bool true),(38,.bool false),(119,.bool false)]) (by kernel_rfl) (fun _ _=>by kernel_rfl) (fun _=>by kernel_rfl) (fun _=>by kernel_rfl) (fun p14=>?_) (fun p14 W14 T hF hK=>?_)
 ·iterate 5 refine ok_v (by kernel_rfl) ?_
  refine ok_L (by kernel_rfl) (by kernel_rfl) (by kernel_rfl) ?_
  refine ok_v (by kernel_rfl) ?_
  refine ok_L (by kernel_rfl) (by kernel_rfl) (by kernel_rfl) ?_
  refine ok_vi ((wr64 (x:=(E:Int)+(F:Int)) (by omega) (by omega)).trans (by omega)) (by kernel_rfl) ?_
  refine ok_vi (wrux (x:=(t:Int)) (by omega) (by omega)) (by kernel_rfl) ?_
  refine ok_vi (hsh) (by kernel_rfl) ?_
  refine ok_vi (hx) (by kernel_rfl) ?_
  refine ok_vb (beq_self_eq_true (bb:Int)) (by kernel_rfl) ?_
  iterate 4 refine ok_v (by kernel_rfl) ?_
  refine ok_vb (beq_self_eq_true (fa:Int)) (by kernel_rfl) ?_
  iterate 4 refine ok_v (by kernel_rfl) ?_
  refine ok_vb (beq_self_eq_true (ba:Int)) (by kernel_rfl) ?_
  iterate 4 refine ok_v (by kernel_rfl) ?_
  refine ok_vb (beq_self_eq_true (fa:Int)) (by kernel_rfl) ?_
  iterate 4 refine ok_v (by kernel_rfl) ?_
  refine ok_vb (beq_self_eq_true (bd:Int)) (by kernel_rfl) ?_
  iterate 4 refine ok_v (by kernel_rfl) ?_
  refine ok_vb (beq_self_eq_true (fd:Int)) (by kernel_rfl) ?_
  iterate 2 refine ok_v (by kernel_rfl) ?_
  exact ok_nil
 replace hS:=SymF.fb hS hF [] [] (by kernel_rfl) (by kernel_rfl)
 replace hG:=hF.gx
 clear hF
 have z14:=hS.fr.size
 refine wp_ret ?_
 exact sym_end hS hK (.bool true) [] [] (by kernel_rfl) (by kernel_rfl) ⟨rfl,hS.fr⟩
theorem mir_3 (w:World) (E F:Nat) (s:Bool) (a b:Option Addr) (n c k l:Nat) (q:Bool) (t S p d u v ba bb bd fa fd:Nat) (hT:Tb w) (hN:Nb5 w) (ht:E+F = t) (h63:t≤63) (hs:S = 2 ^ t) (hB:S≤9223372036854775808) (hx:bits BinOp.xor .u64 (ba:Int) (S:Int) = (bb:Int)) (H1:Hid (∀ W:World,Below w.heap.size w W→Calls Tryz.prog 12 #[.agg #[.int .i64 (E:Int),.int .i64 (F:Int)],.agg #[.bool s,.slice a n c,.slice b k l]] W fun e W'=>e = .returned (.bool true)∧Below W.heap.size W W')) (H2:Hid (∀ W:World,Below w.heap.size w W→Calls Tryz.prog 13 #[.agg #[.bool s,.slice a n c,.slice b k l]] W fun en W'=>(∃ A N C A' N' C',en = .returned (.tuple #[.agg #[.bool q,.slice A N C,.slice A' N' C'],.int .i64 0])∧Mine W' W.heap.size A N C p∧Mine W' W.heap.size A' N' C' d)∧Below W.heap.size W W')) (H3:Hid (∀ W:World,Below w.heap.size w W→Calls Tryz.prog 8 #[.agg #[.bool s,.slice a n c,.slice b k l],.int .u32 10,.int .i64 1] W fun en W'=>(∃ A N C A' N' C',en = .returned (.tuple #[.agg #[.bool s,.slice A N C,.slice A' N' C'],.int .i64 0])∧Mine W' W.heap.size A N C u∧Mine W' W.heap.size A' N' C' v)∧Below W.heap.size W W')) (H4:Hid (∀ W:World,Below w.heap.size w W→Calls Tryz.prog 9 #[.agg #[.int .i64 (E:Int),.int .i64 (F:Int)],.agg #[.bool s,.slice a n c,.slice b k l],.bool false,.int .u8 3] W fun e W'=>e = .returned (.tuple #[.int .u64 (ba:Int),.int .u8 (fa:Int),.int .i64 0])∧Below W.heap.size W W')) (H5:Hid (∀ (W:World) (A:Option Addr) (N C:Nat) (A':Option Addr) (N' C':Nat),Below w.heap.size w W→Num W A N p→Num W A' N' d→Calls Tryz.prog 9 #[.agg #[.int .i64 (E:Int),.int .i64 (F:Int)],.agg #[.bool q,.slice A N C,.slice A' N' C'],.bool true,.int .u8 4] W fun e W'=>e = .returned (.tuple #[.int .u64 (bb:Int),.int .u8 (fa:Int),.int .i64 0])∧Below W.heap.size W W')) (H6:Hid (∀ (W:World) (A:Option Addr) (N C:Nat) (A':Option Addr) (N' C':Nat),Below w.heap.size w W→Num W A N u→Num W A' N' v→Calls Tryz.prog 11 #[.agg #[.int .i64 (E:Int),.int .i64 (F:Int)],.agg #[.bool s,.slice A N C,.slice A' N' C'],.int .i64 (-1),.bool false,.int .u8 3] W fun e W'=>e = .returned (.tuple #[.int .u64 (ba:Int),.int .u8 (fa:Int),.int .i64 0])∧Below W.heap.size W W')) (H7:Hid (∀ (W:World) (A:Option Addr) (N C:Nat) (A':Option Addr) (N' C':Nat),Below w.heap.size w W→Num W A N u→Num W A' N' v→Calls Tryz.prog 9 #[.agg #[.int .i64 (E:Int),.int .i64 (F:Int)],.agg #[.bool s,.slice A N C,.slice A' N' C'],.bool false,.int .u8 3] W fun e W'=>e = .returned (.tuple #[.int .u64 (bd:Int),.int .u8 (fd:Int),.int .i64 0])∧Below W.heap.size W W')) (H8:Hid (∀ W:World,Below w.heap.size w W→Calls Tryz.prog 11 #[.agg #[.int .i64 (E:Int),.int .i64 (F:Int)],.agg #[.bool s,.slice a n c,.slice b k l],.int .i64 1,.bool false,.int .u8 3] W fun e W'=>e = .returned (.tuple #[.int .u64 (bd:Int),.int .u8 (fd:Int),.int .i64 0])∧Below W.heap.size W W')) :
  Calls Tryz.prog 4 #[.agg #[.int .i64 (E:Int),.int .i64 (F:Int)],.agg #[.bool s,.slice a n c,.slice b k l],.int .u8 3] w fun en w'=>en = .returned (.bool true)∧Below w.heap.size w w':=by
 have hsh:IntKind.u64.wrap (1 * 2 ^ min (t:Int).toNat 64) = (S:Int):=by rw [Int.toNat_natCast,Nat.min_eq_left (by omega),Int.one_mul,hs]; exact (wrux (x:=((2 ^ t:Nat):Int)) (by omega) (by rw [← hs]; omega))
 refine calls_sym Tryz.func4 rfl (by kernel_rfl) fun T hK=>?_
 replace hK:Kn T _ [(0,.agg #[.int .i64 (E:Int),.int .i64 (F:Int)]),(1,.agg #[.bool s,.slice a n c,.slice b k l]),(2,.int .u8 3)]:=hK
 have hS:=Fb.begin w
 have hG:GsAt [] w:=trivial
 refine wp_symQ hS hG hK (fun p1=>[.n 3 #[.int .i64 (E:Int),.int .i64 (F:Int)] 23,.n 4 #[.bool s,.slice a n c,.slice b k l] 35,.v 6 (.bool false)]) (fun p1=>[(2,.int .u8 3),(3,.pointer (some ⟨(p1 0).N,0,none⟩)),(4,.pointer (some ⟨(p1 1).N,0,none⟩)),(6,.bool false)]) (by kernel_rfl) (fun _ _=>by kernel_rfl) (fun _=>by kernel_rfl) (fun _=>by kernel_rfl) (fun p1=>?_) (fun p1 W1 T hF hK=>?_)
 ·iterate 2 refine ok_n (fun _=>by kernel_rfl) ?_
  refine ok_v (by kernel_rfl) ?_
  exact ok_nil
 replace hS:=SymF.fb hS hF [1000,1001] [⟨(p1 0).N,#[.int .i64 (E:Int),.int .i64 (F:Int)],23,true⟩,⟨(p1 1).N,#[.bool s,.slice a n c,.slice b k l],35,true⟩] (by kernel_rfl) (by kernel_rfl)
 replace hG:=hF.gx
 clear hF
 have z1:=hS.fr.size
 refine wp_symQ hS hG hK (fun p2=>[.c (some 29) (cV (.bool true)),.v 7 (.bool true)]) (fun p2=>[(2,.int .u8 3),(3,.pointer (some ⟨(p1 0).N,0,none⟩)),(4,.pointer (some ⟨(p1 1).N,0,none⟩)),(6,.bool false),(7,.bool true)]) (by kernel_rfl) (fun _ _=>by kernel_rfl) (fun _=>by kernel_rfl) (fun _=>by kernel_rfl) (fun p2=>?_) (fun p2 W2 T hF hK=>?_)
 ·refine ok_c (fun W cx=>as_v (salive_is _ (hT.kept cx.fr) (hN.kept cx.fr))) (by kernel_rfl) ?_
  refine ok_v (by kernel_rfl) ?_
  exact ok_nil
 replace hS:=SymF.fb hS hF [0,1] [⟨(p1 0).N,#[.int .i64 (E:Int),.int .i64 (F:Int)],23,true⟩,⟨(p1 1).N,#[.bool s,.slice a n c,.slice b k l],35,true⟩] (by kernel_rfl) (by kernel_rfl)
 replace hG:=hF.gx
 clear hF
 have z2:=hS.fr.size
 refine wp_symQ hS hG hK (fun p3=>[.l 30 (.agg #[.int .i64 (E:Int),.int .i64 (F:Int)]) 0 0,.l 31 (.agg #[.bool s,.slice a n c,.slice b k l]) 1 0,.c (some 32) (cV (.bool true)),.v 8 (.bool true)]) (fun p3=>[(2,.int .u8 3),(3,.pointer (some ⟨(p1 0).N,0,none⟩)),(4,.pointer (some ⟨(p1 1).N,0,none⟩)),(6,.bool false),(7,.bool true),(8,.bool true)]) (by kernel_rfl) (fun _ _=>by kernel_rfl) (fun _=>by kernel_rfl) (fun _=>by kernel_rfl) (fun p3=>?_) (fun p3 W3 T hF hK=>?_)
 ·iterate 2 refine ok_L (by kernel_rfl) (by kernel_rfl) (by kernel_rfl) ?_
  refine ok_c (fun W cx=>as_v (unhide H1 _ cx.fr)) (by kernel_rfl) ?_
  refine ok_v (by kernel_rfl) ?_
  exact ok_nil
 replace hS:=SymF.fb hS hF [0,1] [⟨(p1 0).N,#[.int .i64 (E:Int),.int .i64 (F:Int)],23,true⟩,⟨(p1 1).N,#[.bool s,.slice a n c,.slice b k l],35,true⟩] (by kernel_rfl) (by kernel_rfl)
 replace hG:=hF.gx
 clear hF
 have z3:=hS.fr.size
 refine wp_seq ?_
 refine wp_symQ hS hG hK (fun p4=>[.v 33 (.bool true),.v 34 (.bool false),.v 35 (.bool false),.v 36 (.int .u8 3),.v 37 (.bool false),.v 38 (.bool false)]) (fun p4=>[(2,.int .u8 3),(3,.pointer (some ⟨(p1 0).N,0,none⟩)),(4,.pointer (some ⟨(p1 1).N,0,none⟩)),(6,.bool false),(7,.bool true),(38,.bool false)]) (by kernel_rfl) (fun _ _=>by kernel_rfl) (fun _=>by kernel_rfl) (fun _=>by kernel_rfl) (fun p4=>?_) (fun p4 W4 T hF hK=>?_)
 ·iterate 6 refine ok_v (by kernel_rfl) ?_
  exact ok_nil
 replace hS:=SymF.fb hS hF [0,1] [⟨(p1 0).N,#[.int .i64 (E:Int),.int .i64 (F:Int)],23,true⟩,⟨(p1 1).N,#[.bool s,.slice a n c,.slice b k l],35,true⟩] (by kernel_rfl) (by kernel_rfl)
 replace hG:=hF.gx
 clear hF
 have z4:=hS.fr.size
 refine wp_cond_false (hK.ev 38 (by kernel_rfl) _ (by kernel_rfl)) ?_
 refine wp_skip ?_
 refine then_n ?_
 refine wp_symQ hS hG hK (fun p5=>[.n 40 #[.int .u8 0,.int .u8 1,.int .u8 2,.int .u8 4,.int .u8 3] (5000000+5),.v 41 (.int .u8 3),.v 42 (.pointer (some ⟨(p5 0).N,3,none⟩)),.l 43 (.int .u8 4) 1000 3,.v 9 (.int .u8 4)]) (fun p5=>[(2,.int .u8 3),(3,.pointer (some ⟨(p1 0).N,0,none⟩)),(4,.pointer (some ⟨(p1 1).N,0,none⟩)),(6,.bool false),(7,.bool true),(9,.int .u8 4),(38,.bool false)]) (by kernel_rfl) (fun _ _=>by kernel_rfl) (fun _=>by kernel_rfl) (fun _=>by kernel_rfl) (fun p5=>?_) (fun p5 W5 T hF hK=>?_)
 ·refine ok_n (fun _=>by kernel_rfl) ?_
  iterate 2 refine ok_v (by kernel_rfl) ?_
  refine ok_L (by kernel_rfl) (by kernel_rfl) (by kernel_rfl) ?_
  refine ok_v (by kernel_rfl) ?_
  exact ok_nil
 replace hS:=SymF.fb hS hF [0,1] [⟨(p1 0).N,#[.int .i64 (E:Int),.int .i64 (F:Int)],23,true⟩,⟨(p1 1).N,#[.bool s,.slice a n c,.slice b k l],35,true⟩] (by kernel_rfl) (by kernel_rfl)
 replace hG:=hF.gx
 clear hF
 have z5:=hS.fr.size
 refine wp_symQ hS hG hK (fun p6=>[.l 45 (.agg #[.bool s,.slice a n c,.slice b k l]) 1 0,.c (some 46) (cH W5.heap.size p d fun x9 y9=>.tuple #[.agg #[.bool q,x9,y9],.int .i64 0]),.v 44 (.tuple #[.agg #[.bool q,.slice (p6 1).A (p6 1).N (p6 1).C,.slice (p6 1).A' (p6 1).N' (p6 1).C'],.int .i64 0]),.v 47 (.agg #[.bool q,.slice (p6 1).A (p6 1).N (p6 1).C,.slice (p6 1).A' (p6 1).N' (p6 1).C']),.v 48 (.int .i64 0),.n 10 #[.bool false,.slice none 0 0,.slice none 0 0] 35,.p 1005 0 [.bool q,.slice (p6 1).A (p6 1).N (p6 1).C,.slice (p6 1).A' (p6 1).N' (p6 1).C'],.v 11 (.int .i64 0)]) (fun p6=>[(2,.int .u8 3),(3,.pointer (some ⟨(p1 0).N,0,none⟩)),(4,.pointer (some ⟨(p1 1).N,0,none⟩)),(6,.bool false),(7,.bool true),(9,.int .u8 4),(10,.pointer (some ⟨(p6 5).N,0,none⟩)),(11,.int .i64 0),(38,.bool false)]) (by kernel_rfl) (fun _ _=>by kernel_rfl) (fun _=>by kernel_rfl) (fun _=>by kernel_rfl) (fun p6=>?_) (fun p6 W6 T hF hK=>?_)
 ·refine ok_L (by kernel_rfl) (by kernel_rfl) (by kernel_rfl) ?_
  refine ok_c (fun W cx=>as_h cx.hb (unhide H2 _ cx.fr)) (by kernel_rfl) ?_
  iterate 3 refine ok_v (by kernel_rfl) ?_
  refine ok_n (fun _=>by kernel_rfl) ?_
  refine ok_P (by kernel_rfl) (by kernel_rfl) (by kernel_rfl) ?_
  refine ok_v (by kernel_rfl) ?_
  exact ok_nil
 replace hS:=SymF.fb hS hF [0,1,1005] [⟨(p1 0).N,#[.int .i64 (E:Int),.int .i64 (F:Int)],23,true⟩,⟨(p1 1).N,#[.bool s,.slice a n c,.slice b k l],35,true⟩,⟨(p6 5).N,#[.bool q,.slice (p6 1).A (p6 1).N (p6 1).C,.slice (p6 1).A' (p6 1).N' (p6 1).C'],35,true⟩] (by kernel_rfl) (by kernel_rfl)
 replace hG:GsAt (gM W5.heap.size (p6 1).A (p6 1).N (p6 1).C p :: gM W5.heap.size (p6 1).A' (p6 1).N' (p6 1).C' d :: _) W6:=⟨And.left (hF.fx 1),And.right (hF.fx 1),hF.gx⟩
 clear hF
 have z6:=hS.fr.size
 refine wp_symQ hS hG hK (fun p7=>[.l 50 (.agg #[.bool s,.slice a n c,.slice b k l]) 1 0,.c (some 51) (cH W6.heap.size u v fun x9 y9=>.tuple #[.agg #[.bool s,x9,y9],.int .i64 0]),.v 49 (.tuple #[.agg #[.bool s,.slice (p7 1).A (p7 1).N (p7 1).C,.slice (p7 1).A' (p7 1).N' (p7 1).C'],.int .i64 0]),.v 52 (.agg #[.bool s,.slice (p7 1).A (p7 1).N (p7 1).C,.slice (p7 1).A' (p7 1).N' (p7 1).C']),.v 53 (.int .i64 0),.n 12 #[.bool false,.slice none 0 0,.slice none 0 0] 35,.p 1005 0 [.bool s,.slice (p7 1).A (p7 1).N (p7 1).C,.slice (p7 1).A' (p7 1).N' (p7 1).C'],.v 13 (.int .i64 0)]) (fun p7=>[(2,.int .u8 3),(3,.pointer (some ⟨(p1 0).N,0,none⟩)),(4,.pointer (some ⟨(p1 1).N,0,none⟩)),(6,.bool false),(7,.bool true),(9,.int .u8 4),(10,.pointer (some ⟨(p6 5).N,0,none⟩)),(11,.int .i64 0),(12,.pointer (some ⟨(p7 5).N,0,none⟩)),(13,.int .i64 0),(38,.bool false)]) (by kernel_rfl) (fun _ _=>by kernel_rfl) (fun _=>by kernel_rfl) (fun _=>by kernel_rfl) (fun p7=>?_) (fun p7 W7 T hF hK=>?_)
 ·refine ok_L (by kernel_rfl) (by kernel_rfl) (by kernel_rfl) ?_
  refine ok_c (fun W cx=>as_h cx.hb (unhide H3 _ cx.fr)) (by kernel_rfl) ?_
  iterate 3 refine ok_v (by kernel_rfl) ?_
  refine ok_n (fun _=>by kernel_rfl) ?_
  refine ok_P (by kernel_rfl) (by kernel_rfl) (by kernel_rfl) ?_
  refine ok_v (by kernel_rfl) ?_
  exact ok_nil
 replace hS:=SymF.fb hS hF [0,1,2,1005] [⟨(p1 0).N,#[.int .i64 (E:Int),.int .i64 (F:Int)],23,true⟩,⟨(p1 1).N,#[.bool s,.slice a n c,.slice b k l],35,true⟩,⟨(p6 5).N,#[.bool q,.slice (p6 1).A (p6 1).N (p6 1).C,.slice (p6 1).A' (p6 1).N' (p6 1).C'],35,true⟩,⟨(p7 5).N,#[.bool s,.slice (p7 1).A (p7 1).N (p7 1).C,.slice (p7 1).A' (p7 1).N' (p7 1).C'],35,true⟩] (by kernel_rfl) (by kernel_rfl)
 replace hG:GsAt (gM W6.heap.size (p7 1).A (p7 1).N (p7 1).C u :: gM W6.heap.size (p7 1).A' (p7 1).N' (p7 1).C' v :: _) W7:=⟨And.left (hF.fx 1),And.right (hF.fx 1),hF.gx⟩
 clear hF
 have z7:=hS.fr.size
 refine wp_symQ hS hG hK (fun p8=>[.l 55 (.agg #[.int .i64 (E:Int),.int .i64 (F:Int)]) 0 0,.l 56 (.agg #[.bool s,.slice a n c,.slice b k l]) 1 0,.v 57 (.int .u8 3),.c (some 58) (cV (.tuple #[.int .u64 (ba:Int),.int .u8 (fa:Int),.int .i64 0])),.v 54 (.tuple #[.int .u64 (ba:Int),.int .u8 (fa:Int),.int .i64 0]),.v 59 (.int .u64 (ba:Int)),.v 60 (.int .u8 (fa:Int)),.v 61 (.int .i64 0),.v 14 (.int .u64 (ba:Int)),.v 15 (.int .u8 (fa:Int)),.v 16 (.int .i64 0)]) (fun p8=>[(2,.int .u8 3),(3,.pointer (some ⟨(p1 0).N,0,none⟩)),(4,.pointer (some ⟨(p1 1).N,0,none⟩)),(6,.bool false),(7,.bool true),(9,.int .u8 4),(10,.pointer (some ⟨(p6 5).N,0,none⟩)),(11,.int .i64 0),(12,.pointer (some ⟨(p7 5).N,0,none⟩)),(13,.int .i64 0),(14,.int .u64 (ba:Int)),(15,.int .u8 (fa:Int)),(16,.int .i64 0),(38,.bool false)]) (by kernel_rfl) (fun _ _=>by kernel_rfl) (fun _=>by kernel_rfl) (fun _=>by kernel_rfl) (fun p8=>?_) (fun p8 W8 T hF hK=>?_)
 ·iterate 2 refine ok_L (by kernel_rfl) (by kernel_rfl) (by kernel_rfl) ?_
  refine ok_v (by kernel_rfl) ?_
  refine ok_c (fun W cx=>as_v (unhide H4 _ cx.fr)) (by kernel_rfl) ?_
  iterate 7 refine ok_v (by kernel_rfl) ?_
  exact ok_nil
 replace hS:=SymF.fb hS hF [0,1,2,3] [⟨(p1 0).N,#[.int .i64 (E:Int),.int .i64 (F:Int)],23,true⟩,⟨(p1 1).N,#[.bool s,.slice a n c,.slice b k l],35,true⟩,⟨(p6 5).N,#[.bool q,.slice (p6 1).A (p6 1).N (p6 1).C,.slice (p6 1).A' (p6 1).N' (p6 1).C'],35,true⟩,⟨(p7 5).N,#[.bool s,.slice (p7 1).A (p7 1).N (p7 1).C,.slice (p7 1).A' (p7 1).N' (p7 1).C'],35,true⟩] (by kernel_rfl) (by kernel_rfl)
 replace hG:=hF.gx
 clear hF
 have z8:=hS.fr.size
 refine wp_symQ hS hG hK (fun p9=>[.l 63 (.agg #[.int .i64 (E:Int),.int .i64 (F:Int)]) 0 0,.l 64 (.agg #[.bool q,.slice (p6 1).A (p6 1).N (p6 1).C,.slice (p6 1).A' (p6 1).N' (p6 1).C']) 2 0,.v 65 (.int .u8 4),.c (some 66) (cV (.tuple #[.int .u64 (bb:Int),.int .u8 (fa:Int),.int .i64 0])),.v 62 (.tuple #[.int .u64 (bb:Int),.int .u8 (fa:Int),.int .i64 0]),.v 67 (.int .u64 (bb:Int)),.v 68 (.int .u8 (fa:Int)),.v 69 (.int .i64 0),.v 17 (.int .u64 (bb:Int)),.v 18 (.int .u8 (fa:Int)),.v 19 (.int .i64 0)]) (fun p9=>[(2,.int .u8 3),(3,.pointer (some ⟨(p1 0).N,0,none⟩)),(4,.pointer (some ⟨(p1 1).N,0,none⟩)),(6,.bool false),(7,.bool true),(11,.int .i64 0),(12,.pointer (some ⟨(p7 5).N,0,none⟩)),(13,.int .i64 0),(14,.int .u64 (ba:Int)),(15,.int .u8 (fa:Int)),(16,.int .i64 0),(17,.int .u64 (bb:Int)),(18,.int .u8 (fa:Int)),(19,.int .i64 0),(38,.bool false)]) (by kernel_rfl) (fun _ _=>by kernel_rfl) (fun _=>by kernel_rfl) (fun _=>by kernel_rfl) (fun p9=>?_) (fun p9 W9 T hF hK=>?_)
 ·iterate 2 refine ok_L (by kernel_rfl) (by kernel_rfl) (by kernel_rfl) ?_
  refine ok_v (by kernel_rfl) ?_
  refine ok_c (fun W cx=>as_v (unhide H5 _ _ _ (p6 1).C _ _ (p6 1).C' cx.fr (Mine.num cx.G.2.2.1) (Mine.num cx.G.2.2.2.1))) (by kernel_rfl) ?_
  iterate 7 refine ok_v (by kernel_rfl) ?_
  exact ok_nil
 replace hS:=SymF.fb hS hF [0,1,3] [⟨(p1 0).N,#[.int .i64 (E:Int),.int .i64 (F:Int)],23,true⟩,⟨(p1 1).N,#[.bool s,.slice a n c,.slice b k l],35,true⟩,⟨(p7 5).N,#[.bool s,.slice (p7 1).A (p7 1).N (p7 1).C,.slice (p7 1).A' (p7 1).N' (p7 1).C'],35,true⟩] (by kernel_rfl) (by kernel_rfl)
 replace hG:=hF.gx
 clear hF
 have z9:=hS.fr.size
 refine wp_symQ hS hG hK (fun p10=>[.l 71 (.agg #[.int .i64 (E:Int),.int .i64 (F:Int)]) 0 0,.l 72 (.agg #[.bool s,.slice (p7 1).A (p7 1).N (p7 1).C,.slice (p7 1).A' (p7 1).N' (p7 1).C']) 2 0,.v 73 (.int .u8 3),.c (some 74) (cV (.tuple #[.int .u64 (ba:Int),.int .u8 (fa:Int),.int .i64 0])),.v 70 (.tuple #[.int .u64 (ba:Int),.int .u8 (fa:Int),.int .i64 0]),.v 75 (.int .u64 (ba:Int)),.v 76 (.int .u8 (fa:Int)),.v 77 (.int .i64 0),.v 20 (.int .u64 (ba:Int)),.v 21 (.int .u8 (fa:Int)),.v 22 (.int .i64 0)]) (fun p10=>[(2,.int .u8 3),(3,.pointer (some ⟨(p1 0).N,0,none⟩)),(4,.pointer (some ⟨(p1 1).N,0,none⟩)),(6,.bool false),(7,.bool true),(11,.int .i64 0),(12,.pointer (some ⟨(p7 5).N,0,none⟩)),(13,.int .i64 0),(14,.int .u64 (ba:Int)),(15,.int .u8 (fa:Int)),(16,.int .i64 0),(17,.int .u64 (bb:Int)),(18,.int .u8 (fa:Int)),(19,.int .i64 0),(20,.int .u64 (ba:Int)),(21,.int .u8 (fa:Int)),(22,.int .i64 0),(38,.bool false)]) (by kernel_rfl) (fun _ _=>by kernel_rfl) (fun _=>by kernel_rfl) (fun _=>by kernel_rfl) (fun p10=>?_) (fun p10 W10 T hF hK=>?_)
 ·iterate 2 refine ok_L (by kernel_rfl) (by kernel_rfl) (by kernel_rfl) ?_
  refine ok_v (by kernel_rfl) ?_
  refine ok_c (fun W cx=>as_v (unhide H6 _ _ _ (p7 1).C _ _ (p7 1).C' cx.fr (Mine.num cx.G.1) (Mine.num cx.G.2.1))) (by kernel_rfl) ?_
  iterate 7 refine ok_v (by kernel_rfl) ?_
  exact ok_nil
 replace hS:=SymF.fb hS hF [0,1,2] [⟨(p1 0).N,#[.int .i64 (E:Int),.int .i64 (F:Int)],23,true⟩,⟨(p1 1).N,#[.bool s,.slice a n c,.slice b k l],35,true⟩,⟨(p7 5).N,#[.bool s,.slice (p7 1).A (p7 1).N (p7 1).C,.slice (p7 1).A' (p7 1).N' (p7 1).C'],35,true⟩] (by kernel_rfl) (by kernel_rfl)
 replace hG:=hF.gx
 clear hF
 have z10:=hS.fr.size
 refine wp_symQ hS hG hK (fun p11=>[.l 79 (.agg #[.int .i64 (E:Int),.int .i64 (F:Int)]) 0 0,.l 80 (.agg #[.bool s,.slice (p7 1).A (p7 1).N (p7 1).C,.slice (p7 1).A' (p7 1).N' (p7 1).C']) 2 0,.v 81 (.int .u8 3),.c (some 82) (cV (.tuple #[.int .u64 (bd:Int),.int .u8 (fd:Int),.int .i64 0])),.v 78 (.tuple #[.int .u64 (bd:Int),.int .u8 (fd:Int),.int .i64 0]),.v 83 (.int .u64 (bd:Int)),.v 84 (.int .u8 (fd:Int)),.v 85 (.int .i64 0),.v 23 (.int .u64 (bd:Int)),.v 24 (.int .u8 (fd:Int)),.v 25 (.int .i64 0)]) (fun p11=>[(2,.int .u8 3),(3,.pointer (some ⟨(p1 0).N,0,none⟩)),(4,.pointer (some ⟨(p1 1).N,0,none⟩)),(6,.bool false),(7,.bool true),(11,.int .i64 0),(13,.int .i64 0),(14,.int .u64 (ba:Int)),(15,.int .u8 (fa:Int)),(16,.int .i64 0),(17,.int .u64 (bb:Int)),(18,.int .u8 (fa:Int)),(19,.int .i64 0),(20,.int .u64 (ba:Int)),(21,.int .u8 (fa:Int)),(22,.int .i64 0),(23,.int .u64 (bd:Int)),(24,.int .u8 (fd:Int)),(25,.int .i64 0),(38,.bool false)]) (by kernel_rfl) (fun _ _=>by kernel_rfl) (fun _=>by kernel_rfl) (fun _=>by kernel_rfl) (fun p11=>?_) (fun p11 W11 T hF hK=>?_)
 ·iterate 2 refine ok_L (by kernel_rfl) (by kernel_rfl) (by kernel_rfl) ?_
  refine ok_v (by kernel_rfl) ?_
  refine ok_c (fun W cx=>as_v (unhide H7 _ _ _ (p7 1).C _ _ (p7 1).C' cx.fr (Mine.num cx.G.1) (Mine.num cx.G.2.1))) (by kernel_rfl) ?_
  iterate 7 refine ok_v (by kernel_rfl) ?_
  exact ok_nil
 replace hS:=SymF.fb hS hF [0,1] [⟨(p1 0).N,#[.int .i64 (E:Int),.int .i64 (F:Int)],23,true⟩,⟨(p1 1).N,#[.bool s,.slice a n c,.slice b k l],35,true⟩] (by kernel_rfl) (by kernel_rfl)
 replace hG:=hF.gx
 clear hF
 have z11:=hS.fr.size
 refine wp_symQ hS hG hK (fun p12=>[.l 87 (.agg #[.int .i64 (E:Int),.int .i64 (F:Int)]) 0 0,.l 88 (.agg #[.bool s,.slice a n c,.slice b k l]) 1 0,.v 89 (.int .u8 3),.c (some 90) (cV (.tuple #[.int .u64 (bd:Int),.int .u8 (fd:Int),.int .i64 0])),.v 86 (.tuple #[.int .u64 (bd:Int),.int .u8 (fd:Int),.int .i64 0]),.v 91 (.int .u64 (bd:Int)),.v 92 (.int .u8 (fd:Int)),.v 93 (.int .i64 0),.v 26 (.int .u64 (bd:Int)),.v 27 (.int .u8 (fd:Int)),.v 28 (.int .i64 0)]) (fun p12=>[(3,.pointer (some ⟨(p1 0).N,0,none⟩)),(6,.bool false),(7,.bool true),(11,.int .i64 0),(13,.int .i64 0),(14,.int .u64 (ba:Int)),(15,.int .u8 (fa:Int)),(16,.int .i64 0),(17,.int .u64 (bb:Int)),(18,.int .u8 (fa:Int)),(19,.int .i64 0),(20,.int .u64 (ba:Int)),(21,.int .u8 (fa:Int)),(22,.int .i64 0),(23,.int .u64 (bd:Int)),(24,.int .u8 (fd:Int)),(25,.int .i64 0),(26,.int .u64 (bd:Int)),(27,.int .u8 (fd:Int)),(28,.int .i64 0),(38,.bool false)]) (by kernel_rfl) (fun _ _=>by kernel_rfl) (fun _=>by kernel_rfl) (fun _=>by kernel_rfl) (fun p12=>?_) (fun p12 W12 T hF hK=>?_)
 ·iterate 2 refine ok_L (by kernel_rfl) (by kernel_rfl) (by kernel_rfl) ?_
  refine ok_v (by kernel_rfl) ?_
  refine ok_c (fun W cx=>as_v (unhide H8 _ cx.fr)) (by kernel_rfl) ?_
  iterate 7 refine ok_v (by kernel_rfl) ?_
  exact ok_nil
 replace hS:=SymF.fb hS hF [0] [⟨(p1 0).N,#[.int .i64 (E:Int),.int .i64 (F:Int)],23,true⟩] (by kernel_rfl) (by kernel_rfl)
 replace hG:=hF.gx
 clear hF
 have z12:=hS.fr.size
 refine wp_seq ?_
 refine wp_symQ hS hG hK (fun p13=>[.v 94 (.int .i64 0),.v 95 (.bool false),.v 96 (.bool false),.v 97 (.int .i64 0),.v 98 (.bool false),.v 99 (.bool false),.v 100 (.bool false),.v 101 (.int .i64 0),.v 102 (.bool false),.v 103 (.bool false),.v 104 (.bool false),.v 105 (.int .i64 0),.v 106 (.bool false),.v 107 (.bool false),.v 108 (.bool false),.v 109 (.int .i64 0),.v 110 (.bool false),.v 111 (.bool false),.v 112 (.bool false),.v 113 (.int .i64 0),.v 114 (.bool false),.v 115 (.bool false),.v 116 (.bool false),.v 117 (.int .i64 0),.v 118 (.bool false),.v 119 (.bool false)]) (fun p13=>[(3,.pointer (some ⟨(p1 0).N,0,none⟩)),(6,.bool false),(7,.bool true),(14,.int .u64 (ba:Int)),(15,.int .u8 (fa:Int)),(17,.int .u64 (bb:Int)),(18,.int .u8 (fa:Int)),(20,.int .u64 (ba:Int)),(21,.int .u8 (fa:Int)),(23,.int .u64 (bd:Int)),(24,.int .u8 (fd:Int)),(26,.int .u64 (bd:Int)),(27,.int .u8 (fd:Int)),(38,.bool false),(119,.bool false)]) (by kernel_rfl) (fun _ _=>by kernel_rfl) (fun _=>by kernel_rfl) (fun _=>by kernel_rfl) (fun p13=>?_) (fun p13 W13 T hF hK=>?_)
 ·iterate 26 refine ok_v (by kernel_rfl) ?_
  exact ok_nil
 replace hS:=SymF.fb hS hF [0] [⟨(p1 0).N,#[.int .i64 (E:Int),.int .i64 (F:Int)],23,true⟩] (by kernel_rfl) (by kernel_rfl)
 replace hG:=hF.gx
 clear hF
 have z13:=hS.fr.size
 refine wp_cond_false (hK.ev 119 (by kernel_rfl) _ (by kernel_rfl)) ?_
 refine wp_skip ?_
 refine then_n ?_
 refine wp_symQ hS hG hK (fun p14=>[.v 120 (.bool true),.v 121 (.bool true),.v 122 (.int .u64 (bb:Int)),.v 123 (.int .u64 (ba:Int)),.v 124 (.pointer (some ⟨(p1 0).N,0,none⟩)),.l 125 (.int .i64 (E:Int)) 0 0,.v 126 (.pointer (some ⟨(p1 0).N,1,none⟩)),.l 127 (.int .i64 (F:Int)) 0 1,.v 128 (.int .i64 (t:Int)),.v 129 (.int .u64 (t:Int)),.v 130 (.int .u64 (S:Int)),.v 131 (.int .u64 (bb:Int)),.v 132 (.bool true),.v 133 (.bool true),.v 134 (.bool true),.v 135 (.int .u8 (fa:Int)),.v 136 (.int .u8 (fa:Int)),.v 137 (.bool true),.v 138 (.bool true),.v 139 (.bool true),.v 140 (.int .u64 (ba:Int)),.v 141 (.int .u64 (ba:Int)),.v 142 (.bool true),.v 143 (.bool true),.v 144 (.bool true),.v 145 (.int .u8 (fa:Int)),.v 146 (.int .u8 (fa:Int)),.v 147 (.bool true),.v 148 (.bool true),.v 149 (.bool true),.v 150 (.int .u64 (bd:Int)),.v 151 (.int .u64 (bd:Int)),.v 152 (.bool true),.v 153 (.bool true),.v 154 (.bool true),.v 155 (.int .u8 (fd:Int)),.v 156 (.int .u8 (fd:Int)),.v 157 (.bool true),.v 158 (.bool true),.v 6 (.bool true)]) (fun p14=>[(6,.bool true),(7,.bool true),(38,.bool false),(119,.bool false)]) (by kernel_rfl) (fun _ _=>by kernel_rfl) (fun _=>by kernel_rfl) (fun _=>by kernel_rfl) (fun p14=>?_) (fun p14 W14 T hF hK=>?_)
 ·iterate 5 refine ok_v (by kernel_rfl) ?_
  refine ok_L (by kernel_rfl) (by kernel_rfl) (by kernel_rfl) ?_
  refine ok_v (by kernel_rfl) ?_
  refine ok_L (by kernel_rfl) (by kernel_rfl) (by kernel_rfl) ?_
  refine ok_vi ((wr64 (x:=(E:Int)+(F:Int)) (by omega) (by omega)).trans (by omega)) (by kernel_rfl) ?_
  refine ok_vi (wrux (x:=(t:Int)) (by omega) (by omega)) (by kernel_rfl) ?_
  refine ok_vi (hsh) (by kernel_rfl) ?_
  refine ok_vi (hx) (by kernel_rfl) ?_
  refine ok_vb (beq_self_eq_true (bb:Int)) (by kernel_rfl) ?_
  iterate 4 refine ok_v (by kernel_rfl) ?_
  refine ok_vb (beq_self_eq_true (fa:Int)) (by kernel_rfl) ?_
  iterate 4 refine ok_v (by kernel_rfl) ?_
  refine ok_vb (beq_self_eq_true (ba:Int)) (by kernel_rfl) ?_
  iterate 4 refine ok_v (by kernel_rfl) ?_
  refine ok_vb (beq_self_eq_true (fa:Int)) (by kernel_rfl) ?_
  iterate 4 refine ok_v (by kernel_rfl) ?_
  refine ok_vb (beq_self_eq_true (bd:Int)) (by kernel_rfl) ?_
  iterate 4 refine ok_v (by kernel_rfl) ?_
  refine ok_vb (beq_self_eq_true (fd:Int)) (by kernel_rfl) ?_
  iterate 2 refine ok_v (by kernel_rfl) ?_
  exact ok_nil
 replace hS:=SymF.fb hS hF [] [] (by kernel_rfl) (by kernel_rfl)
 replace hG:=hF.gx
 clear hF
 have z14:=hS.fr.size
 refine wp_ret ?_
 exact sym_end hS hK (.bool true) [] [] (by kernel_rfl) (by kernel_rfl) ⟨rfl,hS.fr⟩
theorem mir_4 (w:World) (E F:Nat) (s:Bool) (a b:Option Addr) (n c k l:Nat) (q:Bool) (t S p d u v ba bb bd fa fd:Nat) (hT:Tb w) (hN:Nb5 w) (ht:E+F = t) (h63:t≤63) (hs:S = 2 ^ t) (hB:S≤9223372036854775808) (hx:bits BinOp.xor .u64 (ba:Int) (S:Int) = (bb:Int)) (H1:Hid (∀ W:World,Below w.heap.size w W→Calls Tryz.prog 12 #[.agg #[.int .i64 (E:Int),.int .i64 (F:Int)],.agg #[.bool s,.slice a n c,.slice b k l]] W fun e W'=>e = .returned (.bool true)∧Below W.heap.size W W')) (H2:Hid (∀ W:World,Below w.heap.size w W→Calls Tryz.prog 13 #[.agg #[.bool s,.slice a n c,.slice b k l]] W fun en W'=>(∃ A N C A' N' C',en = .returned (.tuple #[.agg #[.bool q,.slice A N C,.slice A' N' C'],.int .i64 0])∧Mine W' W.heap.size A N C p∧Mine W' W.heap.size A' N' C' d)∧Below W.heap.size W W')) (H3:Hid (∀ W:World,Below w.heap.size w W→Calls Tryz.prog 8 #[.agg #[.bool s,.slice a n c,.slice b k l],.int .u32 10,.int .i64 1] W fun en W'=>(∃ A N C A' N' C',en = .returned (.tuple #[.agg #[.bool s,.slice A N C,.slice A' N' C'],.int .i64 0])∧Mine W' W.heap.size A N C u∧Mine W' W.heap.size A' N' C' v)∧Below W.heap.size W W')) (H4:Hid (∀ W:World,Below w.heap.size w W→Calls Tryz.prog 9 #[.agg #[.int .i64 (E:Int),.int .i64 (F:Int)],.agg #[.bool s,.slice a n c,.slice b k l],.bool false,.int .u8 4] W fun e W'=>e = .returned (.tuple #[.int .u64 (ba:Int),.int .u8 (fa:Int),.int .i64 0])∧Below W.heap.size W W')) (H5:Hid (∀ (W:World) (A:Option Addr) (N C:Nat) (A':Option Addr) (N' C':Nat),Below w.heap.size w W→Num W A N p→Num W A' N' d→Calls Tryz.prog 9 #[.agg #[.int .i64 (E:Int),.int .i64 (F:Int)],.agg #[.bool q,.slice A N C,.slice A' N' C'],.bool true,.int .u8 3] W fun e W'=>e = .returned (.tuple #[.int .u64 (bb:Int),.int .u8 (fa:Int),.int .i64 0])∧Below W.heap.size W W')) (H6:Hid (∀ (W:World) (A:Option Addr) (N C:Nat) (A':Option Addr) (N' C':Nat),Below w.heap.size w W→Num W A N u→Num W A' N' v→Calls Tryz.prog 11 #[.agg #[.int .i64 (E:Int),.int .i64 (F:Int)],.agg #[.bool s,.slice A N C,.slice A' N' C'],.int .i64 (-1),.bool false,.int .u8 4] W fun e W'=>e = .returned (.tuple #[.int .u64 (ba:Int),.int .u8 (fa:Int),.int .i64 0])∧Below W.heap.size W W')) (H7:Hid (∀ (W:World) (A:Option Addr) (N C:Nat) (A':Option Addr) (N' C':Nat),Below w.heap.size w W→Num W A N u→Num W A' N' v→Calls Tryz.prog 9 #[.agg #[.int .i64 (E:Int),.int .i64 (F:Int)],.agg #[.bool s,.slice A N C,.slice A' N' C'],.bool false,.int .u8 4] W fun e W'=>e = .returned (.tuple #[.int .u64 (bd:Int),.int .u8 (fd:Int),.int .i64 0])∧Below W.heap.size W W')) (H8:Hid (∀ W:World,Below w.heap.size w W→Calls Tryz.prog 11 #[.agg #[.int .i64 (E:Int),.int .i64 (F:Int)],.agg #[.bool s,.slice a n c,.slice b k l],.int .i64 1,.bool false,.int .u8 4] W fun e W'=>e = .returned (.tuple #[.int .u64 (bd:Int),.int .u8 (fd:Int),.int .i64 0])∧Below W.heap.size W W')) :
  Calls Tryz.prog 4 #[.agg #[.int .i64 (E:Int),.int .i64 (F:Int)],.agg #[.bool s,.slice a n c,.slice b k l],.int .u8 4] w fun en w'=>en = .returned (.bool true)∧Below w.heap.size w w':=by
 have hsh:IntKind.u64.wrap (1 * 2 ^ min (t:Int).toNat 64) = (S:Int):=by rw [Int.toNat_natCast,Nat.min_eq_left (by omega),Int.one_mul,hs]; exact (wrux (x:=((2 ^ t:Nat):Int)) (by omega) (by rw [← hs]; omega))
 refine calls_sym Tryz.func4 rfl (by kernel_rfl) fun T hK=>?_
 replace hK:Kn T _ [(0,.agg #[.int .i64 (E:Int),.int .i64 (F:Int)]),(1,.agg #[.bool s,.slice a n c,.slice b k l]),(2,.int .u8 4)]:=hK
 have hS:=Fb.begin w
 have hG:GsAt [] w:=trivial
 refine wp_symQ hS hG hK (fun p1=>[.n 3 #[.int .i64 (E:Int),.int .i64 (F:Int)] 23,.n 4 #[.bool s,.slice a n c,.slice b k l] 35,.v 6 (.bool false)]) (fun p1=>[(2,.int .u8 4),(3,.pointer (some ⟨(p1 0).N,0,none⟩)),(4,.pointer (some ⟨(p1 1).N,0,none⟩)),(6,.bool false)]) (by kernel_rfl) (fun _ _=>by kernel_rfl) (fun _=>by kernel_rfl) (fun _=>by kernel_rfl) (fun p1=>?_) (fun p1 W1 T hF hK=>?_)
 ·iterate 2 refine ok_n (fun _=>by kernel_rfl) ?_
  refine ok_v (by kernel_rfl) ?_
  exact ok_nil
 replace hS:=SymF.fb hS hF [1000,1001] [⟨(p1 0).N,#[.int .i64 (E:Int),.int .i64 (F:Int)],23,true⟩,⟨(p1 1).N,#[.bool s,.slice a n c,.slice b k l],35,true⟩] (by kernel_rfl) (by kernel_rfl)
 replace hG:=hF.gx
 clear hF
 have z1:=hS.fr.size
 refine wp_symQ hS hG hK (fun p2=>[.c (some 29) (cV (.bool true)),.v 7 (.bool true)]) (fun p2=>[(2,.int .u8 4),(3,.pointer (some ⟨(p1 0).N,0,none⟩)),(4,.pointer (some ⟨(p1 1).N,0,none⟩)),(6,.bool false),(7,.bool true)]) (by kernel_rfl) (fun _ _=>by kernel_rfl) (fun _=>by kernel_rfl) (fun _=>by kernel_rfl) (fun p2=>?_) (fun p2 W2 T hF hK=>?_)
 ·refine ok_c (fun W cx=>as_v (salive_is _ (hT.kept cx.fr) (hN.kept cx.fr))) (by kernel_rfl) ?_
  refine ok_v (by kernel_rfl) ?_
  exact ok_nil
 replace hS:=SymF.fb hS hF [0,1] [⟨(p1 0).N,#[.int .i64 (E:Int),.int .i64 (F:Int)],23,true⟩,⟨(p1 1).N,#[.bool s,.slice a n c,.slice b k l],35,true⟩] (by kernel_rfl) (by kernel_rfl)
 replace hG:=hF.gx
 clear hF
 have z2:=hS.fr.size
 refine wp_symQ hS hG hK (fun p3=>[.l 30 (.agg #[.int .i64 (E:Int),.int .i64 (F:Int)]) 0 0,.l 31 (.agg #[.bool s,.slice a n c,.slice b k l]) 1 0,.c (some 32) (cV (.bool true)),.v 8 (.bool true)]) (fun p3=>[(2,.int .u8 4),(3,.pointer (some ⟨(p1 0).N,0,none⟩)),(4,.pointer (some ⟨(p1 1).N,0,none⟩)),(6,.bool false),(7,.bool true),(8,.bool true)]) (by kernel_rfl) (fun _ _=>by kernel_rfl) (fun _=>by kernel_rfl) (fun _=>by kernel_rfl) (fun p3=>?_) (fun p3 W3 T hF hK=>?_)
 ·iterate 2 refine ok_L (by kernel_rfl) (by kernel_rfl) (by kernel_rfl) ?_
  refine ok_c (fun W cx=>as_v (unhide H1 _ cx.fr)) (by kernel_rfl) ?_
  refine ok_v (by kernel_rfl) ?_
  exact ok_nil
 replace hS:=SymF.fb hS hF [0,1] [⟨(p1 0).N,#[.int .i64 (E:Int),.int .i64 (F:Int)],23,true⟩,⟨(p1 1).N,#[.bool s,.slice a n c,.slice b k l],35,true⟩] (by kernel_rfl) (by kernel_rfl)
 replace hG:=hF.gx
 clear hF
 have z3:=hS.fr.size
 refine wp_seq ?_
 refine wp_symQ hS hG hK (fun p4=>[.v 33 (.bool true),.v 34 (.bool false),.v 35 (.bool false),.v 36 (.int .u8 4),.v 37 (.bool false),.v 38 (.bool false)]) (fun p4=>[(2,.int .u8 4),(3,.pointer (some ⟨(p1 0).N,0,none⟩)),(4,.pointer (some ⟨(p1 1).N,0,none⟩)),(6,.bool false),(7,.bool true),(38,.bool false)]) (by kernel_rfl) (fun _ _=>by kernel_rfl) (fun _=>by kernel_rfl) (fun _=>by kernel_rfl) (fun p4=>?_) (fun p4 W4 T hF hK=>?_)
 ·iterate 6 refine ok_v (by kernel_rfl) ?_
  exact ok_nil
 replace hS:=SymF.fb hS hF [0,1] [⟨(p1 0).N,#[.int .i64 (E:Int),.int .i64 (F:Int)],23,true⟩,⟨(p1 1).N,#[.bool s,.slice a n c,.slice b k l],35,true⟩] (by kernel_rfl) (by kernel_rfl)
 replace hG:=hF.gx
 clear hF
 have z4:=hS.fr.size
 refine wp_cond_false (hK.ev 38 (by kernel_rfl) _ (by kernel_rfl)) ?_
 refine wp_skip ?_
 refine then_n ?_
 refine wp_symQ hS hG hK (fun p5=>[.n 40 #[.int .u8 0,.int .u8 1,.int .u8 2,.int .u8 4,.int .u8 3] (5000000+5),.v 41 (.int .u8 4),.v 42 (.pointer (some ⟨(p5 0).N,4,none⟩)),.l 43 (.int .u8 3) 1000 4,.v 9 (.int .u8 3)]) (fun p5=>[(2,.int .u8 4),(3,.pointer (some ⟨(p1 0).N,0,none⟩)),(4,.pointer (some ⟨(p1 1).N,0,none⟩)),(6,.bool false),(7,.bool true),(9,.int .u8 3),(38,.bool false)]) (by kernel_rfl) (fun _ _=>by kernel_rfl) (fun _=>by kernel_rfl) (fun _=>by kernel_rfl) (fun p5=>?_) (fun p5 W5 T hF hK=>?_)
 ·refine ok_n (fun _=>by kernel_rfl) ?_
  iterate 2 refine ok_v (by kernel_rfl) ?_
  refine ok_L (by kernel_rfl) (by kernel_rfl) (by kernel_rfl) ?_
  refine ok_v (by kernel_rfl) ?_
  exact ok_nil
 replace hS:=SymF.fb hS hF [0,1] [⟨(p1 0).N,#[.int .i64 (E:Int),.int .i64 (F:Int)],23,true⟩,⟨(p1 1).N,#[.bool s,.slice a n c,.slice b k l],35,true⟩] (by kernel_rfl) (by kernel_rfl)
 replace hG:=hF.gx
 clear hF
 have z5:=hS.fr.size
 refine wp_symQ hS hG hK (fun p6=>[.l 45 (.agg #[.bool s,.slice a n c,.slice b k l]) 1 0,.c (some 46) (cH W5.heap.size p d fun x9 y9=>.tuple #[.agg #[.bool q,x9,y9],.int .i64 0]),.v 44 (.tuple #[.agg #[.bool q,.slice (p6 1).A (p6 1).N (p6 1).C,.slice (p6 1).A' (p6 1).N' (p6 1).C'],.int .i64 0]),.v 47 (.agg #[.bool q,.slice (p6 1).A (p6 1).N (p6 1).C,.slice (p6 1).A' (p6 1).N' (p6 1).C']),.v 48 (.int .i64 0),.n 10 #[.bool false,.slice none 0 0,.slice none 0 0] 35,.p 1005 0 [.bool q,.slice (p6 1).A (p6 1).N (p6 1).C,.slice (p6 1).A' (p6 1).N' (p6 1).C'],.v 11 (.int .i64 0)]) (fun p6=>[(2,.int .u8 4),(3,.pointer (some ⟨(p1 0).N,0,none⟩)),(4,.pointer (some ⟨(p1 1).N,0,none⟩)),(6,.bool false),(7,.bool true),(9,.int .u8 3),(10,.pointer (some ⟨(p6 5).N,0,none⟩)),(11,.int .i64 0),(38,.bool false)]) (by kernel_rfl) (fun _ _=>by kernel_rfl) (fun _=>by kernel_rfl) (fun _=>by kernel_rfl) (fun p6=>?_) (fun p6 W6 T hF hK=>?_)
 ·refine ok_L (by kernel_rfl) (by kernel_rfl) (by kernel_rfl) ?_
  refine ok_c (fun W cx=>as_h cx.hb (unhide H2 _ cx.fr)) (by kernel_rfl) ?_
  iterate 3 refine ok_v (by kernel_rfl) ?_
  refine ok_n (fun _=>by kernel_rfl) ?_
  refine ok_P (by kernel_rfl) (by kernel_rfl) (by kernel_rfl) ?_
  refine ok_v (by kernel_rfl) ?_
  exact ok_nil
 replace hS:=SymF.fb hS hF [0,1,1005] [⟨(p1 0).N,#[.int .i64 (E:Int),.int .i64 (F:Int)],23,true⟩,⟨(p1 1).N,#[.bool s,.slice a n c,.slice b k l],35,true⟩,⟨(p6 5).N,#[.bool q,.slice (p6 1).A (p6 1).N (p6 1).C,.slice (p6 1).A' (p6 1).N' (p6 1).C'],35,true⟩] (by kernel_rfl) (by kernel_rfl)
 replace hG:GsAt (gM W5.heap.size (p6 1).A (p6 1).N (p6 1).C p :: gM W5.heap.size (p6 1).A' (p6 1).N' (p6 1).C' d :: _) W6:=⟨And.left (hF.fx 1),And.right (hF.fx 1),hF.gx⟩
 clear hF
 have z6:=hS.fr.size
 refine wp_symQ hS hG hK (fun p7=>[.l 50 (.agg #[.bool s,.slice a n c,.slice b k l]) 1 0,.c (some 51) (cH W6.heap.size u v fun x9 y9=>.tuple #[.agg #[.bool s,x9,y9],.int .i64 0]),.v 49 (.tuple #[.agg #[.bool s,.slice (p7 1).A (p7 1).N (p7 1).C,.slice (p7 1).A' (p7 1).N' (p7 1).C'],.int .i64 0]),.v 52 (.agg #[.bool s,.slice (p7 1).A (p7 1).N (p7 1).C,.slice (p7 1).A' (p7 1).N' (p7 1).C']),.v 53 (.int .i64 0),.n 12 #[.bool false,.slice none 0 0,.slice none 0 0] 35,.p 1005 0 [.bool s,.slice (p7 1).A (p7 1).N (p7 1).C,.slice (p7 1).A' (p7 1).N' (p7 1).C'],.v 13 (.int .i64 0)]) (fun p7=>[(2,.int .u8 4),(3,.pointer (some ⟨(p1 0).N,0,none⟩)),(4,.pointer (some ⟨(p1 1).N,0,none⟩)),(6,.bool false),(7,.bool true),(9,.int .u8 3),(10,.pointer (some ⟨(p6 5).N,0,none⟩)),(11,.int .i64 0),(12,.pointer (some ⟨(p7 5).N,0,none⟩)),(13,.int .i64 0),(38,.bool false)]) (by kernel_rfl) (fun _ _=>by kernel_rfl) (fun _=>by kernel_rfl) (fun _=>by kernel_rfl) (fun p7=>?_) (fun p7 W7 T hF hK=>?_)
 ·refine ok_L (by kernel_rfl) (by kernel_rfl) (by kernel_rfl) ?_
  refine ok_c (fun W cx=>as_h cx.hb (unhide H3 _ cx.fr)) (by kernel_rfl) ?_
  iterate 3 refine ok_v (by kernel_rfl) ?_
  refine ok_n (fun _=>by kernel_rfl) ?_
  refine ok_P (by kernel_rfl) (by kernel_rfl) (by kernel_rfl) ?_
  refine ok_v (by kernel_rfl) ?_
  exact ok_nil
 replace hS:=SymF.fb hS hF [0,1,2,1005] [⟨(p1 0).N,#[.int .i64 (E:Int),.int .i64 (F:Int)],23,true⟩,⟨(p1 1).N,#[.bool s,.slice a n c,.slice b k l],35,true⟩,⟨(p6 5).N,#[.bool q,.slice (p6 1).A (p6 1).N (p6 1).C,.slice (p6 1).A' (p6 1).N' (p6 1).C'],35,true⟩,⟨(p7 5).N,#[.bool s,.slice (p7 1).A (p7 1).N (p7 1).C,.slice (p7 1).A' (p7 1).N' (p7 1).C'],35,true⟩] (by kernel_rfl) (by kernel_rfl)
 replace hG:GsAt (gM W6.heap.size (p7 1).A (p7 1).N (p7 1).C u :: gM W6.heap.size (p7 1).A' (p7 1).N' (p7 1).C' v :: _) W7:=⟨And.left (hF.fx 1),And.right (hF.fx 1),hF.gx⟩
 clear hF
 have z7:=hS.fr.size
 refine wp_symQ hS hG hK (fun p8=>[.l 55 (.agg #[.int .i64 (E:Int),.int .i64 (F:Int)]) 0 0,.l 56 (.agg #[.bool s,.slice a n c,.slice b k l]) 1 0,.v 57 (.int .u8 4),.c (some 58) (cV (.tuple #[.int .u64 (ba:Int),.int .u8 (fa:Int),.int .i64 0])),.v 54 (.tuple #[.int .u64 (ba:Int),.int .u8 (fa:Int),.int .i64 0]),.v 59 (.int .u64 (ba:Int)),.v 60 (.int .u8 (fa:Int)),.v 61 (.int .i64 0),.v 14 (.int .u64 (ba:Int)),.v 15 (.int .u8 (fa:Int)),.v 16 (.int .i64 0)]) (fun p8=>[(2,.int .u8 4),(3,.pointer (some ⟨(p1 0).N,0,none⟩)),(4,.pointer (some ⟨(p1 1).N,0,none⟩)),(6,.bool false),(7,.bool true),(9,.int .u8 3),(10,.pointer (some ⟨(p6 5).N,0,none⟩)),(11,.int .i64 0),(12,.pointer (some ⟨(p7 5).N,0,none⟩)),(13,.int .i64 0),(14,.int .u64 (ba:Int)),(15,.int .u8 (fa:Int)),(16,.int .i64 0),(38,.bool false)]) (by kernel_rfl) (fun _ _=>by kernel_rfl) (fun _=>by kernel_rfl) (fun _=>by kernel_rfl) (fun p8=>?_) (fun p8 W8 T hF hK=>?_)
 ·iterate 2 refine ok_L (by kernel_rfl) (by kernel_rfl) (by kernel_rfl) ?_
  refine ok_v (by kernel_rfl) ?_
  refine ok_c (fun W cx=>as_v (unhide H4 _ cx.fr)) (by kernel_rfl) ?_
  iterate 7 refine ok_v (by kernel_rfl) ?_
  exact ok_nil
 replace hS:=SymF.fb hS hF [0,1,2,3] [⟨(p1 0).N,#[.int .i64 (E:Int),.int .i64 (F:Int)],23,true⟩,⟨(p1 1).N,#[.bool s,.slice a n c,.slice b k l],35,true⟩,⟨(p6 5).N,#[.bool q,.slice (p6 1).A (p6 1).N (p6 1).C,.slice (p6 1).A' (p6 1).N' (p6 1).C'],35,true⟩,⟨(p7 5).N,#[.bool s,.slice (p7 1).A (p7 1).N (p7 1).C,.slice (p7 1).A' (p7 1).N' (p7 1).C'],35,true⟩] (by kernel_rfl) (by kernel_rfl)
 replace hG:=hF.gx
 clear hF
 have z8:=hS.fr.size
 refine wp_symQ hS hG hK (fun p9=>[.l 63 (.agg #[.int .i64 (E:Int),.int .i64 (F:Int)]) 0 0,.l 64 (.agg #[.bool q,.slice (p6 1).A (p6 1).N (p6 1).C,.slice (p6 1).A' (p6 1).N' (p6 1).C']) 2 0,.v 65 (.int .u8 3),.c (some 66) (cV (.tuple #[.int .u64 (bb:Int),.int .u8 (fa:Int),.int .i64 0])),.v 62 (.tuple #[.int .u64 (bb:Int),.int .u8 (fa:Int),.int .i64 0]),.v 67 (.int .u64 (bb:Int)),.v 68 (.int .u8 (fa:Int)),.v 69 (.int .i64 0),.v 17 (.int .u64 (bb:Int)),.v 18 (.int .u8 (fa:Int)),.v 19 (.int .i64 0)]) (fun p9=>[(2,.int .u8 4),(3,.pointer (some ⟨(p1 0).N,0,none⟩)),(4,.pointer (some ⟨(p1 1).N,0,none⟩)),(6,.bool false),(7,.bool true),(11,.int .i64 0),(12,.pointer (some ⟨(p7 5).N,0,none⟩)),(13,.int .i64 0),(14,.int .u64 (ba:Int)),(15,.int .u8 (fa:Int)),(16,.int .i64 0),(17,.int .u64 (bb:Int)),(18,.int .u8 (fa:Int)),(19,.int .i64 0),(38,.bool false)]) (by kernel_rfl) (fun _ _=>by kernel_rfl) (fun _=>by kernel_rfl) (fun _=>by kernel_rfl) (fun p9=>?_) (fun p9 W9 T hF hK=>?_)
 ·iterate 2 refine ok_L (by kernel_rfl) (by kernel_rfl) (by kernel_rfl) ?_
  refine ok_v (by kernel_rfl) ?_
  refine ok_c (fun W cx=>as_v (unhide H5 _ _ _ (p6 1).C _ _ (p6 1).C' cx.fr (Mine.num cx.G.2.2.1) (Mine.num cx.G.2.2.2.1))) (by kernel_rfl) ?_
  iterate 7 refine ok_v (by kernel_rfl) ?_
  exact ok_nil
 replace hS:=SymF.fb hS hF [0,1,3] [⟨(p1 0).N,#[.int .i64 (E:Int),.int .i64 (F:Int)],23,true⟩,⟨(p1 1).N,#[.bool s,.slice a n c,.slice b k l],35,true⟩,⟨(p7 5).N,#[.bool s,.slice (p7 1).A (p7 1).N (p7 1).C,.slice (p7 1).A' (p7 1).N' (p7 1).C'],35,true⟩] (by kernel_rfl) (by kernel_rfl)
 replace hG:=hF.gx
 clear hF
 have z9:=hS.fr.size
 refine wp_symQ hS hG hK (fun p10=>[.l 71 (.agg #[.int .i64 (E:Int),.int .i64 (F:Int)]) 0 0,.l 72 (.agg #[.bool s,.slice (p7 1).A (p7 1).N (p7 1).C,.slice (p7 1).A' (p7 1).N' (p7 1).C']) 2 0,.v 73 (.int .u8 4),.c (some 74) (cV (.tuple #[.int .u64 (ba:Int),.int .u8 (fa:Int),.int .i64 0])),.v 70 (.tuple #[.int .u64 (ba:Int),.int .u8 (fa:Int),.int .i64 0]),.v 75 (.int .u64 (ba:Int)),.v 76 (.int .u8 (fa:Int)),.v 77 (.int .i64 0),.v 20 (.int .u64 (ba:Int)),.v 21 (.int .u8 (fa:Int)),.v 22 (.int .i64 0)]) (fun p10=>[(2,.int .u8 4),(3,.pointer (some ⟨(p1 0).N,0,none⟩)),(4,.pointer (some ⟨(p1 1).N,0,none⟩)),(6,.bool false),(7,.bool true),(11,.int .i64 0),(12,.pointer (some ⟨(p7 5).N,0,none⟩)),(13,.int .i64 0),(14,.int .u64 (ba:Int)),(15,.int .u8 (fa:Int)),(16,.int .i64 0),(17,.int .u64 (bb:Int)),(18,.int .u8 (fa:Int)),(19,.int .i64 0),(20,.int .u64 (ba:Int)),(21,.int .u8 (fa:Int)),(22,.int .i64 0),(38,.bool false)]) (by kernel_rfl) (fun _ _=>by kernel_rfl) (fun _=>by kernel_rfl) (fun _=>by kernel_rfl) (fun p10=>?_) (fun p10 W10 T hF hK=>?_)
 ·iterate 2 refine ok_L (by kernel_rfl) (by kernel_rfl) (by kernel_rfl) ?_
  refine ok_v (by kernel_rfl) ?_
  refine ok_c (fun W cx=>as_v (unhide H6 _ _ _ (p7 1).C _ _ (p7 1).C' cx.fr (Mine.num cx.G.1) (Mine.num cx.G.2.1))) (by kernel_rfl) ?_
  iterate 7 refine ok_v (by kernel_rfl) ?_
  exact ok_nil
 replace hS:=SymF.fb hS hF [0,1,2] [⟨(p1 0).N,#[.int .i64 (E:Int),.int .i64 (F:Int)],23,true⟩,⟨(p1 1).N,#[.bool s,.slice a n c,.slice b k l],35,true⟩,⟨(p7 5).N,#[.bool s,.slice (p7 1).A (p7 1).N (p7 1).C,.slice (p7 1).A' (p7 1).N' (p7 1).C'],35,true⟩] (by kernel_rfl) (by kernel_rfl)
 replace hG:=hF.gx
 clear hF
 have z10:=hS.fr.size
 refine wp_symQ hS hG hK (fun p11=>[.l 79 (.agg #[.int .i64 (E:Int),.int .i64 (F:Int)]) 0 0,.l 80 (.agg #[.bool s,.slice (p7 1).A (p7 1).N (p7 1).C,.slice (p7 1).A' (p7 1).N' (p7 1).C']) 2 0,.v 81 (.int .u8 4),.c (some 82) (cV (.tuple #[.int .u64 (bd:Int),.int .u8 (fd:Int),.int .i64 0])),.v 78 (.tuple #[.int .u64 (bd:Int),.int .u8 (fd:Int),.int .i64 0]),.v 83 (.int .u64 (bd:Int)),.v 84 (.int .u8 (fd:Int)),.v 85 (.int .i64 0),.v 23 (.int .u64 (bd:Int)),.v 24 (.int .u8 (fd:Int)),.v 25 (.int .i64 0)]) (fun p11=>[(2,.int .u8 4),(3,.pointer (some ⟨(p1 0).N,0,none⟩)),(4,.pointer (some ⟨(p1 1).N,0,none⟩)),(6,.bool false),(7,.bool true),(11,.int .i64 0),(13,.int .i64 0),(14,.int .u64 (ba:Int)),(15,.int .u8 (fa:Int)),(16,.int .i64 0),(17,.int .u64 (bb:Int)),(18,.int .u8 (fa:Int)),(19,.int .i64 0),(20,.int .u64 (ba:Int)),(21,.int .u8 (fa:Int)),(22,.int .i64 0),(23,.int .u64 (bd:Int)),(24,.int .u8 (fd:Int)),(25,.int .i64 0),(38,.bool false)]) (by kernel_rfl) (fun _ _=>by kernel_rfl) (fun _=>by kernel_rfl) (fun _=>by kernel_rfl) (fun p11=>?_) (fun p11 W11 T hF hK=>?_)
 ·iterate 2 refine ok_L (by kernel_rfl) (by kernel_rfl) (by kernel_rfl) ?_
  refine ok_v (by kernel_rfl) ?_
  refine ok_c (fun W cx=>as_v (unhide H7 _ _ _ (p7 1).C _ _ (p7 1).C' cx.fr (Mine.num cx.G.1) (Mine.num cx.G.2.1))) (by kernel_rfl) ?_
  iterate 7 refine ok_v (by kernel_rfl) ?_
  exact ok_nil
 replace hS:=SymF.fb hS hF [0,1] [⟨(p1 0).N,#[.int .i64 (E:Int),.int .i64 (F:Int)],23,true⟩,⟨(p1 1).N,#[.bool s,.slice a n c,.slice b k l],35,true⟩] (by kernel_rfl) (by kernel_rfl)
 replace hG:=hF.gx
 clear hF
 have z11:=hS.fr.size
 refine wp_symQ hS hG hK (fun p12=>[.l 87 (.agg #[.int .i64 (E:Int),.int .i64 (F:Int)]) 0 0,.l 88 (.agg #[.bool s,.slice a n c,.slice b k l]) 1 0,.v 89 (.int .u8 4),.c (some 90) (cV (.tuple #[.int .u64 (bd:Int),.int .u8 (fd:Int),.int .i64 0])),.v 86 (.tuple #[.int .u64 (bd:Int),.int .u8 (fd:Int),.int .i64 0]),.v 91 (.int .u64 (bd:Int)),.v 92 (.int .u8 (fd:Int)),.v 93 (.int .i64 0),.v 26 (.int .u64 (bd:Int)),.v 27 (.int .u8 (fd:Int)),.v 28 (.int .i64 0)]) (fun p12=>[(3,.pointer (some ⟨(p1 0).N,0,none⟩)),(6,.bool false),(7,.bool true),(11,.int .i64 0),(13,.int .i64 0),(14,.int .u64 (ba:Int)),(15,.int .u8 (fa:Int)),(16,.int .i64 0),(17,.int .u64 (bb:Int)),(18,.int .u8 (fa:Int)),(19,.int .i64 0),(20,.int .u64 (ba:Int)),(21,.int .u8 (fa:Int)),(22,.int .i64 0),(23,.int .u64 (bd:Int)),(24,.int .u8 (fd:Int)),(25,.int .i64 0),(26,.int .u64 (bd:Int)),(27,.int .u8 (fd:Int)),(28,.int .i64 0),(38,.bool false)]) (by kernel_rfl) (fun _ _=>by kernel_rfl) (fun _=>by kernel_rfl) (fun _=>by kernel_rfl) (fun p12=>?_) (fun p12 W12 T hF hK=>?_)
 ·iterate 2 refine ok_L (by kernel_rfl) (by kernel_rfl) (by kernel_rfl) ?_
  refine ok_v (by kernel_rfl) ?_
  refine ok_c (fun W cx=>as_v (unhide H8 _ cx.fr)) (by kernel_rfl) ?_
  iterate 7 refine ok_v (by kernel_rfl) ?_
  exact ok_nil
 replace hS:=SymF.fb hS hF [0] [⟨(p1 0).N,#[.int .i64 (E:Int),.int .i64 (F:Int)],23,true⟩] (by kernel_rfl) (by kernel_rfl)
 replace hG:=hF.gx
 clear hF
 have z12:=hS.fr.size
 refine wp_seq ?_
 refine wp_symQ hS hG hK (fun p13=>[.v 94 (.int .i64 0),.v 95 (.bool false),.v 96 (.bool false),.v 97 (.int .i64 0),.v 98 (.bool false),.v 99 (.bool false),.v 100 (.bool false),.v 101 (.int .i64 0),.v 102 (.bool false),.v 103 (.bool false),.v 104 (.bool false),.v 105 (.int .i64 0),.v 106 (.bool false),.v 107 (.bool false),.v 108 (.bool false),.v 109 (.int .i64 0),.v 110 (.bool false),.v 111 (.bool false),.v 112 (.bool false),.v 113 (.int .i64 0),.v 114 (.bool false),.v 115 (.bool false),.v 116 (.bool false),.v 117 (.int .i64 0),.v 118 (.bool false),.v 119 (.bool false)]) (fun p13=>[(3,.pointer (some ⟨(p1 0).N,0,none⟩)),(6,.bool false),(7,.bool true),(14,.int .u64 (ba:Int)),(15,.int .u8 (fa:Int)),(17,.int .u64 (bb:Int)),(18,.int .u8 (fa:Int)),(20,.int .u64 (ba:Int)),(21,.int .u8 (fa:Int)),(23,.int .u64 (bd:Int)),(24,.int .u8 (fd:Int)),(26,.int .u64 (bd:Int)),(27,.int .u8 (fd:Int)),(38,.bool false),(119,.bool false)]) (by kernel_rfl) (fun _ _=>by kernel_rfl) (fun _=>by kernel_rfl) (fun _=>by kernel_rfl) (fun p13=>?_) (fun p13 W13 T hF hK=>?_)
 ·iterate 26 refine ok_v (by kernel_rfl) ?_
  exact ok_nil
 replace hS:=SymF.fb hS hF [0] [⟨(p1 0).N,#[.int .i64 (E:Int),.int .i64 (F:Int)],23,true⟩] (by kernel_rfl) (by kernel_rfl)
 replace hG:=hF.gx
 clear hF
 have z13:=hS.fr.size
 refine wp_cond_false (hK.ev 119 (by kernel_rfl) _ (by kernel_rfl)) ?_
 refine wp_skip ?_
 refine then_n ?_
 refine wp_symQ hS hG hK (fun p14=>[.v 120 (.bool true),.v 121 (.bool true),.v 122 (.int .u64 (bb:Int)),.v 123 (.int .u64 (ba:Int)),.v 124 (.pointer (some ⟨(p1 0).N,0,none⟩)),.l 125 (.int .i64 (E:Int)) 0 0,.v 126 (.pointer (some ⟨(p1 0).N,1,none⟩)),.l 127 (.int .i64 (F:Int)) 0 1,.v 128 (.int .i64 (t:Int)),.v 129 (.int .u64 (t:Int)),.v 130 (.int .u64 (S:Int)),.v 131 (.int .u64 (bb:Int)),.v 132 (.bool true),.v 133 (.bool true),.v 134 (.bool true),.v 135 (.int .u8 (fa:Int)),.v 136 (.int .u8 (fa:Int)),.v 137 (.bool true),.v 138 (.bool true),.v 139 (.bool true),.v 140 (.int .u64 (ba:Int)),.v 141 (.int .u64 (ba:Int)),.v 142 (.bool true),.v 143 (.bool true),.v 144 (.bool true),.v 145 (.int .u8 (fa:Int)),.v 146 (.int .u8 (fa:Int)),.v 147 (.bool true),.v 148 (.bool true),.v 149 (.bool true),.v 150 (.int .u64 (bd:Int)),.v 151 (.int .u64 (bd:Int)),.v 152 (.bool true),.v 153 (.bool true),.v 154 (.bool true),.v 155 (.int .u8 (fd:Int)),.v 156 (.int .u8 (fd:Int)),.v 157 (.bool true),.v 158 (.bool true),.v 6 (.bool true)]) (fun p14=>[(6,.bool true),(7,.bool true),(38,.bool false),(119,.bool false)]) (by kernel_rfl) (fun _ _=>by kernel_rfl) (fun _=>by kernel_rfl) (fun _=>by kernel_rfl) (fun p14=>?_) (fun p14 W14 T hF hK=>?_)
 ·iterate 5 refine ok_v (by kernel_rfl) ?_
  refine ok_L (by kernel_rfl) (by kernel_rfl) (by kernel_rfl) ?_
  refine ok_v (by kernel_rfl) ?_
  refine ok_L (by kernel_rfl) (by kernel_rfl) (by kernel_rfl) ?_
  refine ok_vi ((wr64 (x:=(E:Int)+(F:Int)) (by omega) (by omega)).trans (by omega)) (by kernel_rfl) ?_
  refine ok_vi (wrux (x:=(t:Int)) (by omega) (by omega)) (by kernel_rfl) ?_
  refine ok_vi (hsh) (by kernel_rfl) ?_
  refine ok_vi (hx) (by kernel_rfl) ?_
  refine ok_vb (beq_self_eq_true (bb:Int)) (by kernel_rfl) ?_
  iterate 4 refine ok_v (by kernel_rfl) ?_
  refine ok_vb (beq_self_eq_true (fa:Int)) (by kernel_rfl) ?_
  iterate 4 refine ok_v (by kernel_rfl) ?_
  refine ok_vb (beq_self_eq_true (ba:Int)) (by kernel_rfl) ?_
  iterate 4 refine ok_v (by kernel_rfl) ?_
  refine ok_vb (beq_self_eq_true (fa:Int)) (by kernel_rfl) ?_
  iterate 4 refine ok_v (by kernel_rfl) ?_
  refine ok_vb (beq_self_eq_true (bd:Int)) (by kernel_rfl) ?_
  iterate 4 refine ok_v (by kernel_rfl) ?_
  refine ok_vb (beq_self_eq_true (fd:Int)) (by kernel_rfl) ?_
  iterate 2 refine ok_v (by kernel_rfl) ?_
  exact ok_nil
 replace hS:=SymF.fb hS hF [] [] (by kernel_rfl) (by kernel_rfl)
 replace hG:=hF.gx
 clear hF
 have z14:=hS.fr.size
 refine wp_ret ?_
 exact sym_end hS hK (.bool true) [] [] (by kernel_rfl) (by kernel_rfl) ⟨rfl,hS.fr⟩
end Go.Proofs.YtbbhlfngjoongaaGreatDoor
