/- Of what DecNearRow stands on: DcNeaX. -/
import Derived.Test.YtbblodioaedckaaGreatPbc
namespace Go.Proofs.YtbblodioaedckaaGreat
open Go.RowKit
set_option maxHeartbeats 2000000
set_option maxRecDepth 20000
theorem near_mz (w:World) (g:Bool) (s:ByteArray) (x:Int) (s2:ByteArray) (x2:Int) (n k hf:Int) (c:Int) (md:Nat) (hk:n - 1 = k) (hn0:-1000000≤n) (hn1:n≤1000000) (hq:(s2.toList != (⟨#[]⟩:ByteArray).toList) = false) (hm:md < 2) (hc:c≠0) (hh:hf≤0) (HK:Hid (∀ W:World,Calls Tryz.prog 25 #[.agg #[.bool g,.string s2,.int .i64 x2]] W fun e W'=>e = .returned (.int .i64 0)∧Below W.heap.size W W')) (HM:Hid (∀ W:World,Calls Tryz.prog 11 #[.agg #[.bool g,.string s2,.int .i64 x2],.agg #[.bool g,.string s,.int .i64 x]] W fun e W'=>e = .returned (.tuple #[.int .i64 c,.int .i64 0])∧Below W.heap.size W W')) (HU:Hid (∀ W:World,Calls Tryz.prog 57 #[.agg #[.bool g,.string s,.int .i64 x],.agg #[.bool g,.string s2,.int .i64 x2],.string ⟨#[49]⟩,.int .i64 n] W fun e W'=>e = .returned (.tuple #[.int .i64 (-1),.bool true])∧Below W.heap.size W W')) (HV:Hid (∀ W:World,Calls Tryz.prog 57 #[.agg #[.bool g,.string s,.int .i64 x],.agg #[.bool g,.string s2,.int .i64 x2],.string ⟨#[53]⟩,.int .i64 k] W fun e W'=>e = .returned (.tuple #[.int .i64 hf,.bool true])∧Below W.heap.size W W')) :
  Calls Tryz.prog 19 #[.agg #[.bool g,.string s,.int .i64 x],.agg #[.bool g,.string s2,.int .i64 x2],.bool false,.int .i64 n,.int .u8 (md:Int)] w fun en w'=>en = .returned (.bool true)∧Below w.heap.size w w':=by
 refine calls_sym Tryz.func19 rfl (by kernel_rfl) fun T hK=>?_
 replace hK:Kn T _ [(0,.agg #[.bool g,.string s,.int .i64 x]),(1,.agg #[.bool g,.string s2,.int .i64 x2]),(2,.bool false),(3,.int .i64 n),(4,.int .u8 (md:Int))]:=hK
 have hS:=Fb.begin w
 have hG:GsAt [] w:=trivial
 refine wp_symQ hS hG hK (fun p1=>[.n 5 #[.bool g,.string s,.int .i64 x] 23,.n 6 #[.bool g,.string s2,.int .i64 x2] 23,.v 10 (.bool false)]) (fun p1=>[(2,.bool false),(3,.int .i64 n),(4,.int .u8 (md:Int)),(5,.pointer (some ⟨(p1 0).N,0,none⟩)),(6,.pointer (some ⟨(p1 1).N,0,none⟩)),(10,.bool false)]) (by kernel_rfl) (fun _ _=>by kernel_rfl) (fun _=>by kernel_rfl) (fun _=>by kernel_rfl) (fun p1=>?_) (fun p1 W1 T hF hK=>?_)
 ·iterate 2 refine ok_n (fun _=>by kernel_rfl) ?_
  refine ok_v (by kernel_rfl) ?_
  exact ok_nil
 replace hS:=SymF.fb hS hF [1000,1001] [⟨(p1 0).N,#[.bool g,.string s,.int .i64 x],23,true⟩,⟨(p1 1).N,#[.bool g,.string s2,.int .i64 x2],23,true⟩] (by kernel_rfl) (by kernel_rfl)
 replace hG:=hF.gx
 clear hF
 have z1:=hS.fr.size
 refine wp_seq ?_
 refine wp_symQ hS hG hK (fun p2=>[.l 17 (.agg #[.bool g,.string s2,.int .i64 x2]) 1 0,.c (some 18) (cV (.int .i64 0)),.v 19 (.bool false),.v 20 (.bool false),.v 21 (.pointer (some ⟨(p1 1).N,0,none⟩)),.l 22 (.bool g) 1 0,.v 23 (.pointer (some ⟨(p1 0).N,0,none⟩)),.l 24 (.bool g) 0 0,.v 25 (.bool false),.v 26 (.bool false),.v 27 (.bool false),.v 28 (.pointer (some ⟨(p1 1).N,1,none⟩)),.l 29 (.string s2) 1 1,.v 30 (.bool false),.v 31 (.bool false),.k (some 32),.k (some 33),.k (some 34),.k (some 35),.v 36 (.bool false),.v 37 (.bool false)]) (fun p2=>[(2,.bool false),(3,.int .i64 n),(4,.int .u8 (md:Int)),(5,.pointer (some ⟨(p1 0).N,0,none⟩)),(6,.pointer (some ⟨(p1 1).N,0,none⟩)),(10,.bool false),(37,.bool false)]) (by kernel_rfl) (fun _ _=>by kernel_rfl) (fun _=>by kernel_rfl) (fun _=>by kernel_rfl) (fun p2=>?_) (fun p2 W2 T hF hK=>?_)
 ·refine ok_L (by kernel_rfl) (by kernel_rfl) (by kernel_rfl) ?_
  refine ok_c (fun W cx=>as_v (unhide HK _)) (by kernel_rfl) ?_
  iterate 3 refine ok_v (by kernel_rfl) ?_
  refine ok_L (by kernel_rfl) (by kernel_rfl) (by kernel_rfl) ?_
  refine ok_v (by kernel_rfl) ?_
  refine ok_L (by kernel_rfl) (by kernel_rfl) (by kernel_rfl) ?_
  refine ok_vb (show (g != g) = false by cases g <;> rfl) (by kernel_rfl) ?_
  iterate 3 refine ok_v (by kernel_rfl) ?_
  refine ok_L (by kernel_rfl) (by kernel_rfl) (by kernel_rfl) ?_
  refine ok_vb (hq) (by kernel_rfl) ?_
  refine ok_v (by kernel_rfl) ?_
  iterate 4 refine ok_K (by kernel_rfl) ?_
  iterate 2 refine ok_v (by kernel_rfl) ?_
  exact ok_nil
 replace hS:=SymF.fb hS hF [0,1] [⟨(p1 0).N,#[.bool g,.string s,.int .i64 x],23,true⟩,⟨(p1 1).N,#[.bool g,.string s2,.int .i64 x2],23,true⟩] (by kernel_rfl) (by kernel_rfl)
 replace hG:=hF.gx
 clear hF
 have z2:=hS.fr.size
 refine wp_cond_false (hK.ev 37 (by kernel_rfl) _ (by kernel_rfl)) ?_
 refine wp_skip ?_
 refine then_n ?_
 refine wp_seq ?_
 refine wp_symQ hS hG hK (fun p3=>[.v 38 (.bool false)]) (fun p3=>[(3,.int .i64 n),(4,.int .u8 (md:Int)),(5,.pointer (some ⟨(p1 0).N,0,none⟩)),(6,.pointer (some ⟨(p1 1).N,0,none⟩)),(10,.bool false),(37,.bool false),(38,.bool false)]) (by kernel_rfl) (fun _ _=>by kernel_rfl) (fun _=>by kernel_rfl) (fun _=>by kernel_rfl) (fun p3=>?_) (fun p3 W3 T hF hK=>?_)
 ·refine ok_v (by kernel_rfl) ?_
  exact ok_nil
 replace hS:=SymF.fb hS hF [0,1] [⟨(p1 0).N,#[.bool g,.string s,.int .i64 x],23,true⟩,⟨(p1 1).N,#[.bool g,.string s2,.int .i64 x2],23,true⟩] (by kernel_rfl) (by kernel_rfl)
 replace hG:=hF.gx
 clear hF
 have z3:=hS.fr.size
 refine wp_cond_false (hK.ev 38 (by kernel_rfl) _ (by kernel_rfl)) ?_
 refine wp_skip ?_
 refine then_n ?_
 refine wp_symQ hS hG hK (fun p4=>[.l 43 (.agg #[.bool g,.string s2,.int .i64 x2]) 1 0,.l 44 (.agg #[.bool g,.string s,.int .i64 x]) 0 0,.c (some 45) (cV (.tuple #[.int .i64 c,.int .i64 0])),.v 42 (.tuple #[.int .i64 c,.int .i64 0]),.v 46 (.int .i64 c),.v 47 (.int .i64 0),.v 11 (.int .i64 c),.v 12 (.int .i64 0)]) (fun p4=>[(3,.int .i64 n),(4,.int .u8 (md:Int)),(5,.pointer (some ⟨(p1 0).N,0,none⟩)),(6,.pointer (some ⟨(p1 1).N,0,none⟩)),(10,.bool false),(11,.int .i64 c),(12,.int .i64 0),(37,.bool false),(38,.bool false)]) (by kernel_rfl) (fun _ _=>by kernel_rfl) (fun _=>by kernel_rfl) (fun _=>by kernel_rfl) (fun p4=>?_) (fun p4 W4 T hF hK=>?_)
 ·iterate 2 refine ok_L (by kernel_rfl) (by kernel_rfl) (by kernel_rfl) ?_
  refine ok_c (fun W cx=>as_v (unhide HM _)) (by kernel_rfl) ?_
  iterate 5 refine ok_v (by kernel_rfl) ?_
  exact ok_nil
 replace hS:=SymF.fb hS hF [0,1] [⟨(p1 0).N,#[.bool g,.string s,.int .i64 x],23,true⟩,⟨(p1 1).N,#[.bool g,.string s2,.int .i64 x2],23,true⟩] (by kernel_rfl) (by kernel_rfl)
 replace hG:=hF.gx
 clear hF
 have z4:=hS.fr.size
 refine wp_symQ hS hG hK (fun p5=>[.l 49 (.agg #[.bool g,.string s,.int .i64 x]) 0 0,.l 50 (.agg #[.bool g,.string s2,.int .i64 x2]) 1 0,.v 51 (.int .i64 n),.c (some 52) (cV (.tuple #[.int .i64 (-1),.bool true])),.v 48 (.tuple #[.int .i64 (-1),.bool true]),.v 53 (.int .i64 (-1)),.v 54 (.bool true),.v 13 (.int .i64 (-1)),.v 14 (.bool true)]) (fun p5=>[(3,.int .i64 n),(4,.int .u8 (md:Int)),(5,.pointer (some ⟨(p1 0).N,0,none⟩)),(6,.pointer (some ⟨(p1 1).N,0,none⟩)),(10,.bool false),(11,.int .i64 c),(12,.int .i64 0),(13,.int .i64 (-1)),(14,.bool true),(37,.bool false),(38,.bool false)]) (by kernel_rfl) (fun _ _=>by kernel_rfl) (fun _=>by kernel_rfl) (fun _=>by kernel_rfl) (fun p5=>?_) (fun p5 W5 T hF hK=>?_)
 ·iterate 2 refine ok_L (by kernel_rfl) (by kernel_rfl) (by kernel_rfl) ?_
  refine ok_v (by kernel_rfl) ?_
  refine ok_c (fun W cx=>as_v (unhide HU _)) (by kernel_rfl) ?_
  iterate 5 refine ok_v (by kernel_rfl) ?_
  exact ok_nil
 replace hS:=SymF.fb hS hF [0,1] [⟨(p1 0).N,#[.bool g,.string s,.int .i64 x],23,true⟩,⟨(p1 1).N,#[.bool g,.string s2,.int .i64 x2],23,true⟩] (by kernel_rfl) (by kernel_rfl)
 replace hG:=hF.gx
 clear hF
 have z5:=hS.fr.size
 refine wp_symQ hS hG hK (fun p6=>[.l 56 (.agg #[.bool g,.string s,.int .i64 x]) 0 0,.l 57 (.agg #[.bool g,.string s2,.int .i64 x2]) 1 0,.v 58 (.int .i64 n),.v 59 (.int .i64 k),.c (some 60) (cV (.tuple #[.int .i64 hf,.bool true])),.v 55 (.tuple #[.int .i64 hf,.bool true]),.v 61 (.int .i64 hf),.v 62 (.bool true),.v 15 (.int .i64 hf),.v 16 (.bool true)]) (fun p6=>[(4,.int .u8 (md:Int)),(5,.pointer (some ⟨(p1 0).N,0,none⟩)),(6,.pointer (some ⟨(p1 1).N,0,none⟩)),(10,.bool false),(11,.int .i64 c),(12,.int .i64 0),(13,.int .i64 (-1)),(14,.bool true),(15,.int .i64 hf),(16,.bool true),(37,.bool false),(38,.bool false)]) (by kernel_rfl) (fun _ _=>by kernel_rfl) (fun _=>by kernel_rfl) (fun _=>by kernel_rfl) (fun p6=>?_) (fun p6 W6 T hF hK=>?_)
 ·iterate 2 refine ok_L (by kernel_rfl) (by kernel_rfl) (by kernel_rfl) ?_
  refine ok_v (by kernel_rfl) ?_
  refine ok_vi ((wr64 (x:=n - 1) (by omega) (by omega)).trans hk) (by kernel_rfl) ?_
  refine ok_c (fun W cx=>as_v (unhide HV _)) (by kernel_rfl) ?_
  iterate 5 refine ok_v (by kernel_rfl) ?_
  exact ok_nil
 replace hS:=SymF.fb hS hF [0,1] [⟨(p1 0).N,#[.bool g,.string s,.int .i64 x],23,true⟩,⟨(p1 1).N,#[.bool g,.string s2,.int .i64 x2],23,true⟩] (by kernel_rfl) (by kernel_rfl)
 replace hG:=hF.gx
 clear hF
 have z6:=hS.fr.size
 refine wp_seq ?_
 refine wp_symQ hS hG hK (fun p7=>[.v 63 (.int .i64 0),.v 64 (.bool false),.v 65 (.bool false),.v 66 (.bool true),.v 67 (.bool false),.v 68 (.bool false),.v 69 (.bool false),.v 70 (.bool true),.v 71 (.bool false),.v 72 (.bool false),.v 73 (.bool false),.v 74 (.int .i64 c),.v 75 (.bool false),.v 76 (.bool false),.v 77 (.bool false),.v 78 (.int .i64 (-1)),.v 79 (.bool false),.v 80 (.bool false)]) (fun p7=>[(4,.int .u8 (md:Int)),(5,.pointer (some ⟨(p1 0).N,0,none⟩)),(6,.pointer (some ⟨(p1 1).N,0,none⟩)),(10,.bool false),(11,.int .i64 c),(13,.int .i64 (-1)),(15,.int .i64 hf),(37,.bool false),(38,.bool false),(80,.bool false)]) (by kernel_rfl) (fun _ _=>by kernel_rfl) (fun _=>by kernel_rfl) (fun _=>by kernel_rfl) (fun p7=>?_) (fun p7 W7 T hF hK=>?_)
 ·iterate 12 refine ok_v (by kernel_rfl) ?_
  refine ok_vb (beq_false_of_ne (show c≠0 by omega)) (by kernel_rfl) ?_
  iterate 5 refine ok_v (by kernel_rfl) ?_
  exact ok_nil
 replace hS:=SymF.fb hS hF [0,1] [⟨(p1 0).N,#[.bool g,.string s,.int .i64 x],23,true⟩,⟨(p1 1).N,#[.bool g,.string s2,.int .i64 x2],23,true⟩] (by kernel_rfl) (by kernel_rfl)
 replace hG:=hF.gx
 clear hF
 have z7:=hS.fr.size
 refine wp_cond_false (hK.ev 80 (by kernel_rfl) _ (by kernel_rfl)) ?_
 refine wp_skip ?_
 refine then_n ?_
 refine wp_seq ?_
 refine wp_symQ hS hG hK (fun p8=>[.v 81 (.int .u8 (md:Int))]) (fun p8=>[(5,.pointer (some ⟨(p1 0).N,0,none⟩)),(6,.pointer (some ⟨(p1 1).N,0,none⟩)),(10,.bool false),(11,.int .i64 c),(13,.int .i64 (-1)),(15,.int .i64 hf),(37,.bool false),(38,.bool false),(80,.bool false),(81,.int .u8 (md:Int))]) (by kernel_rfl) (fun _ _=>by kernel_rfl) (fun _=>by kernel_rfl) (fun _=>by kernel_rfl) (fun p8=>?_) (fun p8 W8 T hF hK=>?_)
 ·refine ok_v (by kernel_rfl) ?_
  exact ok_nil
 replace hS:=SymF.fb hS hF [0,1] [⟨(p1 0).N,#[.bool g,.string s,.int .i64 x],23,true⟩,⟨(p1 1).N,#[.bool g,.string s2,.int .i64 x2],23,true⟩] (by kernel_rfl) (by kernel_rfl)
 replace hG:=hF.gx
 clear hF
 have z8:=hS.fr.size
 refine wp_block ?_
 refine wp_symQ hS hG hK (fun p9=>[.v 83 (.bool false),.v 82 (.bool false)]) (fun p9=>[(5,.pointer (some ⟨(p1 0).N,0,none⟩)),(6,.pointer (some ⟨(p1 1).N,0,none⟩)),(10,.bool false),(11,.int .i64 c),(13,.int .i64 (-1)),(15,.int .i64 hf),(37,.bool false),(38,.bool false),(80,.bool false),(81,.int .u8 (md:Int)),(82,.bool false)]) (by kernel_rfl) (fun _ _=>by kernel_rfl) (fun _=>by kernel_rfl) (fun _=>by kernel_rfl) (fun p9=>?_) (fun p9 W9 T hF hK=>?_)
 ·refine ok_vb (beq_false_of_ne (show (md:Int)≠3 by omega)) (by kernel_rfl) ?_
  refine ok_v (by kernel_rfl) ?_
  exact ok_nil
 replace hS:=SymF.fb hS hF [0,1] [⟨(p1 0).N,#[.bool g,.string s,.int .i64 x],23,true⟩,⟨(p1 1).N,#[.bool g,.string s2,.int .i64 x2],23,true⟩] (by kernel_rfl) (by kernel_rfl)
 replace hG:=hF.gx
 clear hF
 have z9:=hS.fr.size
 refine wp_cond_false (hK.ev 82 (by kernel_rfl) _ (by kernel_rfl)) ?_
 refine wp_symQ hS hG hK (fun p10=>[.v 91 (.bool false),.v 90 (.bool false)]) (fun p10=>[(5,.pointer (some ⟨(p1 0).N,0,none⟩)),(6,.pointer (some ⟨(p1 1).N,0,none⟩)),(10,.bool false),(11,.int .i64 c),(13,.int .i64 (-1)),(15,.int .i64 hf),(37,.bool false),(38,.bool false),(80,.bool false),(81,.int .u8 (md:Int)),(82,.bool false),(90,.bool false)]) (by kernel_rfl) (fun _ _=>by kernel_rfl) (fun _=>by kernel_rfl) (fun _=>by kernel_rfl) (fun p10=>?_) (fun p10 W10 T hF hK=>?_)
 ·refine ok_vb (beq_false_of_ne (show (md:Int)≠4 by omega)) (by kernel_rfl) ?_
  refine ok_v (by kernel_rfl) ?_
  exact ok_nil
 replace hS:=SymF.fb hS hF [0,1] [⟨(p1 0).N,#[.bool g,.string s,.int .i64 x],23,true⟩,⟨(p1 1).N,#[.bool g,.string s2,.int .i64 x2],23,true⟩] (by kernel_rfl) (by kernel_rfl)
 replace hG:=hF.gx
 clear hF
 have z10:=hS.fr.size
 refine wp_cond_false (hK.ev 90 (by kernel_rfl) _ (by kernel_rfl)) ?_
 refine wp_symQ hS hG hK (fun p11=>[.v 99 (.bool false),.v 98 (.bool false)]) (fun p11=>[(5,.pointer (some ⟨(p1 0).N,0,none⟩)),(6,.pointer (some ⟨(p1 1).N,0,none⟩)),(10,.bool false),(11,.int .i64 c),(13,.int .i64 (-1)),(15,.int .i64 hf),(37,.bool false),(38,.bool false),(80,.bool false),(82,.bool false),(90,.bool false),(98,.bool false)]) (by kernel_rfl) (fun _ _=>by kernel_rfl) (fun _=>by kernel_rfl) (fun _=>by kernel_rfl) (fun p11=>?_) (fun p11 W11 T hF hK=>?_)
 ·refine ok_vb (beq_false_of_ne (show (md:Int)≠2 by omega)) (by kernel_rfl) ?_
  refine ok_v (by kernel_rfl) ?_
  exact ok_nil
 replace hS:=SymF.fb hS hF [0,1] [⟨(p1 0).N,#[.bool g,.string s,.int .i64 x],23,true⟩,⟨(p1 1).N,#[.bool g,.string s2,.int .i64 x2],23,true⟩] (by kernel_rfl) (by kernel_rfl)
 replace hG:=hF.gx
 clear hF
 have z11:=hS.fr.size
 refine wp_cond_false (hK.ev 98 (by kernel_rfl) _ (by kernel_rfl)) ?_
 refine wp_skip ?_
 refine inb_n ?_
 refine then_n ?_
 refine wp_symQ hS hG hK (fun p12=>[.v 109 (.int .i64 hf),.v 110 (.bool true),.v 10 (.bool true)]) (fun p12=>[(5,.pointer (some ⟨(p1 0).N,0,none⟩)),(6,.pointer (some ⟨(p1 1).N,0,none⟩)),(10,.bool true),(11,.int .i64 c),(13,.int .i64 (-1)),(37,.bool false),(38,.bool false),(80,.bool false),(82,.bool false),(90,.bool false),(98,.bool false)]) (by kernel_rfl) (fun _ _=>by kernel_rfl) (fun _=>by kernel_rfl) (fun _=>by kernel_rfl) (fun p12=>?_) (fun p12 W12 T hF hK=>?_)
 ·refine ok_v (by kernel_rfl) ?_
  refine ok_vb (decide_eq_true (show hf≤0 by omega)) (by kernel_rfl) ?_
  refine ok_v (by kernel_rfl) ?_
  exact ok_nil
 replace hS:=SymF.fb hS hF [0,1] [⟨(p1 0).N,#[.bool g,.string s,.int .i64 x],23,true⟩,⟨(p1 1).N,#[.bool g,.string s2,.int .i64 x2],23,true⟩] (by kernel_rfl) (by kernel_rfl)
 replace hG:=hF.gx
 clear hF
 have z12:=hS.fr.size
 refine wp_ret ?_
 exact sym_end hS hK (.bool true) [] [] (by kernel_rfl) (by kernel_rfl) ⟨rfl,hS.fr⟩
theorem near_mn (w:World) (g:Bool) (s:ByteArray) (x:Int) (s2:ByteArray) (x2:Int) (n k hf:Int) (c:Int) (md:Nat) (hk:n - 1 = k) (hn0:-1000000≤n) (hn1:n≤1000000) (hq:(s2.toList != (⟨#[]⟩:ByteArray).toList) = true) (hx:n≤x2) (hm:md < 2) (hc:c≠0) (hh:hf≤0) (HK:Hid (∀ W:World,Calls Tryz.prog 25 #[.agg #[.bool g,.string s2,.int .i64 x2]] W fun e W'=>e = .returned (.int .i64 0)∧Below W.heap.size W W')) (HM:Hid (∀ W:World,Calls Tryz.prog 11 #[.agg #[.bool g,.string s2,.int .i64 x2],.agg #[.bool g,.string s,.int .i64 x]] W fun e W'=>e = .returned (.tuple #[.int .i64 c,.int .i64 0])∧Below W.heap.size W W')) (HU:Hid (∀ W:World,Calls Tryz.prog 57 #[.agg #[.bool g,.string s,.int .i64 x],.agg #[.bool g,.string s2,.int .i64 x2],.string ⟨#[49]⟩,.int .i64 n] W fun e W'=>e = .returned (.tuple #[.int .i64 (-1),.bool true])∧Below W.heap.size W W')) (HV:Hid (∀ W:World,Calls Tryz.prog 57 #[.agg #[.bool g,.string s,.int .i64 x],.agg #[.bool g,.string s2,.int .i64 x2],.string ⟨#[53]⟩,.int .i64 k] W fun e W'=>e = .returned (.tuple #[.int .i64 hf,.bool true])∧Below W.heap.size W W')) :
  Calls Tryz.prog 19 #[.agg #[.bool g,.string s,.int .i64 x],.agg #[.bool g,.string s2,.int .i64 x2],.bool false,.int .i64 n,.int .u8 (md:Int)] w fun en w'=>en = .returned (.bool true)∧Below w.heap.size w w':=by
 refine calls_sym Tryz.func19 rfl (by kernel_rfl) fun T hK=>?_
 replace hK:Kn T _ [(0,.agg #[.bool g,.string s,.int .i64 x]),(1,.agg #[.bool g,.string s2,.int .i64 x2]),(2,.bool false),(3,.int .i64 n),(4,.int .u8 (md:Int))]:=hK
 have hS:=Fb.begin w
 have hG:GsAt [] w:=trivial
 refine wp_symQ hS hG hK (fun p1=>[.n 5 #[.bool g,.string s,.int .i64 x] 23,.n 6 #[.bool g,.string s2,.int .i64 x2] 23,.v 10 (.bool false)]) (fun p1=>[(2,.bool false),(3,.int .i64 n),(4,.int .u8 (md:Int)),(5,.pointer (some ⟨(p1 0).N,0,none⟩)),(6,.pointer (some ⟨(p1 1).N,0,none⟩)),(10,.bool false)]) (by kernel_rfl) (fun _ _=>by kernel_rfl) (fun _=>by kernel_rfl) (fun _=>by kernel_rfl) (fun p1=>?_) (fun p1 W1 T hF hK=>?_)
 ·iterate 2 refine ok_n (fun _=>by kernel_rfl) ?_
  refine ok_v (by kernel_rfl) ?_
  exact ok_nil
 replace hS:=SymF.fb hS hF [1000,1001] [⟨(p1 0).N,#[.bool g,.string s,.int .i64 x],23,true⟩,⟨(p1 1).N,#[.bool g,.string s2,.int .i64 x2],23,true⟩] (by kernel_rfl) (by kernel_rfl)
 replace hG:=hF.gx
 clear hF
 have z1:=hS.fr.size
 refine wp_seq ?_
 refine wp_symQ hS hG hK (fun p2=>[.l 17 (.agg #[.bool g,.string s2,.int .i64 x2]) 1 0,.c (some 18) (cV (.int .i64 0)),.v 19 (.bool false),.v 20 (.bool false),.v 21 (.pointer (some ⟨(p1 1).N,0,none⟩)),.l 22 (.bool g) 1 0,.v 23 (.pointer (some ⟨(p1 0).N,0,none⟩)),.l 24 (.bool g) 0 0,.v 25 (.bool false),.v 26 (.bool false),.v 27 (.bool false),.v 28 (.pointer (some ⟨(p1 1).N,1,none⟩)),.l 29 (.string s2) 1 1,.v 30 (.bool true),.v 31 (.bool true),.v 32 (.pointer (some ⟨(p1 1).N,2,none⟩)),.l 33 (.int .i64 x2) 1 2,.v 34 (.int .i64 n),.v 35 (.bool false),.v 36 (.bool false),.v 37 (.bool false)]) (fun p2=>[(2,.bool false),(3,.int .i64 n),(4,.int .u8 (md:Int)),(5,.pointer (some ⟨(p1 0).N,0,none⟩)),(6,.pointer (some ⟨(p1 1).N,0,none⟩)),(10,.bool false),(37,.bool false)]) (by kernel_rfl) (fun _ _=>by kernel_rfl) (fun _=>by kernel_rfl) (fun _=>by kernel_rfl) (fun p2=>?_) (fun p2 W2 T hF hK=>?_)
 ·refine ok_L (by kernel_rfl) (by kernel_rfl) (by kernel_rfl) ?_
  refine ok_c (fun W cx=>as_v (unhide HK _)) (by kernel_rfl) ?_
  iterate 3 refine ok_v (by kernel_rfl) ?_
  refine ok_L (by kernel_rfl) (by kernel_rfl) (by kernel_rfl) ?_
  refine ok_v (by kernel_rfl) ?_
  refine ok_L (by kernel_rfl) (by kernel_rfl) (by kernel_rfl) ?_
  refine ok_vb (show (g != g) = false by cases g <;> rfl) (by kernel_rfl) ?_
  iterate 3 refine ok_v (by kernel_rfl) ?_
  refine ok_L (by kernel_rfl) (by kernel_rfl) (by kernel_rfl) ?_
  refine ok_vb (hq) (by kernel_rfl) ?_
  iterate 2 refine ok_v (by kernel_rfl) ?_
  refine ok_L (by kernel_rfl) (by kernel_rfl) (by kernel_rfl) ?_
  refine ok_v (by kernel_rfl) ?_
  refine ok_vb (decide_eq_false (show ¬ x2 < n by omega)) (by kernel_rfl) ?_
  iterate 2 refine ok_v (by kernel_rfl) ?_
  exact ok_nil
 replace hS:=SymF.fb hS hF [0,1] [⟨(p1 0).N,#[.bool g,.string s,.int .i64 x],23,true⟩,⟨(p1 1).N,#[.bool g,.string s2,.int .i64 x2],23,true⟩] (by kernel_rfl) (by kernel_rfl)
 replace hG:=hF.gx
 clear hF
 have z2:=hS.fr.size
 refine wp_cond_false (hK.ev 37 (by kernel_rfl) _ (by kernel_rfl)) ?_
 refine wp_skip ?_
 refine then_n ?_
 refine wp_seq ?_
 refine wp_symQ hS hG hK (fun p3=>[.v 38 (.bool false)]) (fun p3=>[(3,.int .i64 n),(4,.int .u8 (md:Int)),(5,.pointer (some ⟨(p1 0).N,0,none⟩)),(6,.pointer (some ⟨(p1 1).N,0,none⟩)),(10,.bool false),(37,.bool false),(38,.bool false)]) (by kernel_rfl) (fun _ _=>by kernel_rfl) (fun _=>by kernel_rfl) (fun _=>by kernel_rfl) (fun p3=>?_) (fun p3 W3 T hF hK=>?_)
 ·refine ok_v (by kernel_rfl) ?_
  exact ok_nil
 replace hS:=SymF.fb hS hF [0,1] [⟨(p1 0).N,#[.bool g,.string s,.int .i64 x],23,true⟩,⟨(p1 1).N,#[.bool g,.string s2,.int .i64 x2],23,true⟩] (by kernel_rfl) (by kernel_rfl)
 replace hG:=hF.gx
 clear hF
 have z3:=hS.fr.size
 refine wp_cond_false (hK.ev 38 (by kernel_rfl) _ (by kernel_rfl)) ?_
 refine wp_skip ?_
 refine then_n ?_
 refine wp_symQ hS hG hK (fun p4=>[.l 43 (.agg #[.bool g,.string s2,.int .i64 x2]) 1 0,.l 44 (.agg #[.bool g,.string s,.int .i64 x]) 0 0,.c (some 45) (cV (.tuple #[.int .i64 c,.int .i64 0])),.v 42 (.tuple #[.int .i64 c,.int .i64 0]),.v 46 (.int .i64 c),.v 47 (.int .i64 0),.v 11 (.int .i64 c),.v 12 (.int .i64 0)]) (fun p4=>[(3,.int .i64 n),(4,.int .u8 (md:Int)),(5,.pointer (some ⟨(p1 0).N,0,none⟩)),(6,.pointer (some ⟨(p1 1).N,0,none⟩)),(10,.bool false),(11,.int .i64 c),(12,.int .i64 0),(37,.bool false),(38,.bool false)]) (by kernel_rfl) (fun _ _=>by kernel_rfl) (fun _=>by kernel_rfl) (fun _=>by kernel_rfl) (fun p4=>?_) (fun p4 W4 T hF hK=>?_)
 ·iterate 2 refine ok_L (by kernel_rfl) (by kernel_rfl) (by kernel_rfl) ?_
  refine ok_c (fun W cx=>as_v (unhide HM _)) (by kernel_rfl) ?_
  iterate 5 refine ok_v (by kernel_rfl) ?_
  exact ok_nil
 replace hS:=SymF.fb hS hF [0,1] [⟨(p1 0).N,#[.bool g,.string s,.int .i64 x],23,true⟩,⟨(p1 1).N,#[.bool g,.string s2,.int .i64 x2],23,true⟩] (by kernel_rfl) (by kernel_rfl)
 replace hG:=hF.gx
 clear hF
 have z4:=hS.fr.size
 refine wp_symQ hS hG hK (fun p5=>[.l 49 (.agg #[.bool g,.string s,.int .i64 x]) 0 0,.l 50 (.agg #[.bool g,.string s2,.int .i64 x2]) 1 0,.v 51 (.int .i64 n),.c (some 52) (cV (.tuple #[.int .i64 (-1),.bool true])),.v 48 (.tuple #[.int .i64 (-1),.bool true]),.v 53 (.int .i64 (-1)),.v 54 (.bool true),.v 13 (.int .i64 (-1)),.v 14 (.bool true)]) (fun p5=>[(3,.int .i64 n),(4,.int .u8 (md:Int)),(5,.pointer (some ⟨(p1 0).N,0,none⟩)),(6,.pointer (some ⟨(p1 1).N,0,none⟩)),(10,.bool false),(11,.int .i64 c),(12,.int .i64 0),(13,.int .i64 (-1)),(14,.bool true),(37,.bool false),(38,.bool false)]) (by kernel_rfl) (fun _ _=>by kernel_rfl) (fun _=>by kernel_rfl) (fun _=>by kernel_rfl) (fun p5=>?_) (fun p5 W5 T hF hK=>?_)
 ·iterate 2 refine ok_L (by kernel_rfl) (by kernel_rfl) (by kernel_rfl) ?_
  refine ok_v (by kernel_rfl) ?_
  refine ok_c (fun W cx=>as_v (unhide HU _)) (by kernel_rfl) ?_
  iterate 5 refine ok_v (by kernel_rfl) ?_
  exact ok_nil
 replace hS:=SymF.fb hS hF [0,1] [⟨(p1 0).N,#[.bool g,.string s,.int .i64 x],23,true⟩,⟨(p1 1).N,#[.bool g,.string s2,.int .i64 x2],23,true⟩] (by kernel_rfl) (by kernel_rfl)
 replace hG:=hF.gx
 clear hF
 have z5:=hS.fr.size
 refine wp_symQ hS hG hK (fun p6=>[.l 56 (.agg #[.bool g,.string s,.int .i64 x]) 0 0,.l 57 (.agg #[.bool g,.string s2,.int .i64 x2]) 1 0,.v 58 (.int .i64 n),.v 59 (.int .i64 k),.c (some 60) (cV (.tuple #[.int .i64 hf,.bool true])),.v 55 (.tuple #[.int .i64 hf,.bool true]),.v 61 (.int .i64 hf),.v 62 (.bool true),.v 15 (.int .i64 hf),.v 16 (.bool true)]) (fun p6=>[(4,.int .u8 (md:Int)),(5,.pointer (some ⟨(p1 0).N,0,none⟩)),(6,.pointer (some ⟨(p1 1).N,0,none⟩)),(10,.bool false),(11,.int .i64 c),(12,.int .i64 0),(13,.int .i64 (-1)),(14,.bool true),(15,.int .i64 hf),(16,.bool true),(37,.bool false),(38,.bool false)]) (by kernel_rfl) (fun _ _=>by kernel_rfl) (fun _=>by kernel_rfl) (fun _=>by kernel_rfl) (fun p6=>?_) (fun p6 W6 T hF hK=>?_)
 ·iterate 2 refine ok_L (by kernel_rfl) (by kernel_rfl) (by kernel_rfl) ?_
  refine ok_v (by kernel_rfl) ?_
  refine ok_vi ((wr64 (x:=n - 1) (by omega) (by omega)).trans hk) (by kernel_rfl) ?_
  refine ok_c (fun W cx=>as_v (unhide HV _)) (by kernel_rfl) ?_
  iterate 5 refine ok_v (by kernel_rfl) ?_
  exact ok_nil
 replace hS:=SymF.fb hS hF [0,1] [⟨(p1 0).N,#[.bool g,.string s,.int .i64 x],23,true⟩,⟨(p1 1).N,#[.bool g,.string s2,.int .i64 x2],23,true⟩] (by kernel_rfl) (by kernel_rfl)
 replace hG:=hF.gx
 clear hF
 have z6:=hS.fr.size
 refine wp_seq ?_
 refine wp_symQ hS hG hK (fun p7=>[.v 63 (.int .i64 0),.v 64 (.bool false),.v 65 (.bool false),.v 66 (.bool true),.v 67 (.bool false),.v 68 (.bool false),.v 69 (.bool false),.v 70 (.bool true),.v 71 (.bool false),.v 72 (.bool false),.v 73 (.bool false),.v 74 (.int .i64 c),.v 75 (.bool false),.v 76 (.bool false),.v 77 (.bool false),.v 78 (.int .i64 (-1)),.v 79 (.bool false),.v 80 (.bool false)]) (fun p7=>[(4,.int .u8 (md:Int)),(5,.pointer (some ⟨(p1 0).N,0,none⟩)),(6,.pointer (some ⟨(p1 1).N,0,none⟩)),(10,.bool false),(11,.int .i64 c),(13,.int .i64 (-1)),(15,.int .i64 hf),(37,.bool false),(38,.bool false),(80,.bool false)]) (by kernel_rfl) (fun _ _=>by kernel_rfl) (fun _=>by kernel_rfl) (fun _=>by kernel_rfl) (fun p7=>?_) (fun p7 W7 T hF hK=>?_)
 ·iterate 12 refine ok_v (by kernel_rfl) ?_
  refine ok_vb (beq_false_of_ne (show c≠0 by omega)) (by kernel_rfl) ?_
  iterate 5 refine ok_v (by kernel_rfl) ?_
  exact ok_nil
 replace hS:=SymF.fb hS hF [0,1] [⟨(p1 0).N,#[.bool g,.string s,.int .i64 x],23,true⟩,⟨(p1 1).N,#[.bool g,.string s2,.int .i64 x2],23,true⟩] (by kernel_rfl) (by kernel_rfl)
 replace hG:=hF.gx
 clear hF
 have z7:=hS.fr.size
 refine wp_cond_false (hK.ev 80 (by kernel_rfl) _ (by kernel_rfl)) ?_
 refine wp_skip ?_
 refine then_n ?_
 refine wp_seq ?_
 refine wp_symQ hS hG hK (fun p8=>[.v 81 (.int .u8 (md:Int))]) (fun p8=>[(5,.pointer (some ⟨(p1 0).N,0,none⟩)),(6,.pointer (some ⟨(p1 1).N,0,none⟩)),(10,.bool false),(11,.int .i64 c),(13,.int .i64 (-1)),(15,.int .i64 hf),(37,.bool false),(38,.bool false),(80,.bool false),(81,.int .u8 (md:Int))]) (by kernel_rfl) (fun _ _=>by kernel_rfl) (fun _=>by kernel_rfl) (fun _=>by kernel_rfl) (fun p8=>?_) (fun p8 W8 T hF hK=>?_)
 ·refine ok_v (by kernel_rfl) ?_
  exact ok_nil
 replace hS:=SymF.fb hS hF [0,1] [⟨(p1 0).N,#[.bool g,.string s,.int .i64 x],23,true⟩,⟨(p1 1).N,#[.bool g,.string s2,.int .i64 x2],23,true⟩] (by kernel_rfl) (by kernel_rfl)
 replace hG:=hF.gx
 clear hF
 have z8:=hS.fr.size
 refine wp_block ?_
 refine wp_symQ hS hG hK (fun p9=>[.v 83 (.bool false),.v 82 (.bool false)]) (fun p9=>[(5,.pointer (some ⟨(p1 0).N,0,none⟩)),(6,.pointer (some ⟨(p1 1).N,0,none⟩)),(10,.bool false),(11,.int .i64 c),(13,.int .i64 (-1)),(15,.int .i64 hf),(37,.bool false),(38,.bool false),(80,.bool false),(81,.int .u8 (md:Int)),(82,.bool false)]) (by kernel_rfl) (fun _ _=>by kernel_rfl) (fun _=>by kernel_rfl) (fun _=>by kernel_rfl) (fun p9=>?_) (fun p9 W9 T hF hK=>?_)
 ·refine ok_vb (beq_false_of_ne (show (md:Int)≠3 by omega)) (by kernel_rfl) ?_
  refine ok_v (by kernel_rfl) ?_
  exact ok_nil
 replace hS:=SymF.fb hS hF [0,1] [⟨(p1 0).N,#[.bool g,.string s,.int .i64 x],23,true⟩,⟨(p1 1).N,#[.bool g,.string s2,.int .i64 x2],23,true⟩] (by kernel_rfl) (by kernel_rfl)
 replace hG:=hF.gx
 clear hF
 have z9:=hS.fr.size
 refine wp_cond_false (hK.ev 82 (by kernel_rfl) _ (by kernel_rfl)) ?_
 refine wp_symQ hS hG hK (fun p10=>[.v 91 (.bool false),.v 90 (.bool false)]) (fun p10=>[(5,.pointer (some ⟨(p1 0).N,0,none⟩)),(6,.pointer (some ⟨(p1 1).N,0,none⟩)),(10,.bool false),(11,.int .i64 c),(13,.int .i64 (-1)),(15,.int .i64 hf),(37,.bool false),(38,.bool false),(80,.bool false),(81,.int .u8 (md:Int)),(82,.bool false),(90,.bool false)]) (by kernel_rfl) (fun _ _=>by kernel_rfl) (fun _=>by kernel_rfl) (fun _=>by kernel_rfl) (fun p10=>?_) (fun p10 W10 T hF hK=>?_)
 ·refine ok_vb (beq_false_of_ne (show (md:Int)≠4 by omega)) (by kernel_rfl) ?_
  refine ok_v (by kernel_rfl) ?_
  exact ok_nil
 replace hS:=SymF.fb hS hF [0,1] [⟨(p1 0).N,#[.bool g,.string s,.int .i64 x],23,true⟩,⟨(p1 1).N,#[.bool g,.string s2,.int .i64 x2],23,true⟩] (by kernel_rfl) (by kernel_rfl)
 replace hG:=hF.gx
 clear hF
 have z10:=hS.fr.size
 refine wp_cond_false (hK.ev 90 (by kernel_rfl) _ (by kernel_rfl)) ?_
 refine wp_symQ hS hG hK (fun p11=>[.v 99 (.bool false),.v 98 (.bool false)]) (fun p11=>[(5,.pointer (some ⟨(p1 0).N,0,none⟩)),(6,.pointer (some ⟨(p1 1).N,0,none⟩)),(10,.bool false),(11,.int .i64 c),(13,.int .i64 (-1)),(15,.int .i64 hf),(37,.bool false),(38,.bool false),(80,.bool false),(82,.bool false),(90,.bool false),(98,.bool false)]) (by kernel_rfl) (fun _ _=>by kernel_rfl) (fun _=>by kernel_rfl) (fun _=>by kernel_rfl) (fun p11=>?_) (fun p11 W11 T hF hK=>?_)
 ·refine ok_vb (beq_false_of_ne (show (md:Int)≠2 by omega)) (by kernel_rfl) ?_
  refine ok_v (by kernel_rfl) ?_
  exact ok_nil
 replace hS:=SymF.fb hS hF [0,1] [⟨(p1 0).N,#[.bool g,.string s,.int .i64 x],23,true⟩,⟨(p1 1).N,#[.bool g,.string s2,.int .i64 x2],23,true⟩] (by kernel_rfl) (by kernel_rfl)
 replace hG:=hF.gx
 clear hF
 have z11:=hS.fr.size
 refine wp_cond_false (hK.ev 98 (by kernel_rfl) _ (by kernel_rfl)) ?_
 refine wp_skip ?_
 refine inb_n ?_
 refine then_n ?_
 refine wp_symQ hS hG hK (fun p12=>[.v 109 (.int .i64 hf),.v 110 (.bool true),.v 10 (.bool true)]) (fun p12=>[(5,.pointer (some ⟨(p1 0).N,0,none⟩)),(6,.pointer (some ⟨(p1 1).N,0,none⟩)),(10,.bool true),(11,.int .i64 c),(13,.int .i64 (-1)),(37,.bool false),(38,.bool false),(80,.bool false),(82,.bool false),(90,.bool false),(98,.bool false)]) (by kernel_rfl) (fun _ _=>by kernel_rfl) (fun _=>by kernel_rfl) (fun _=>by kernel_rfl) (fun p12=>?_) (fun p12 W12 T hF hK=>?_)
 ·refine ok_v (by kernel_rfl) ?_
  refine ok_vb (decide_eq_true (show hf≤0 by omega)) (by kernel_rfl) ?_
  refine ok_v (by kernel_rfl) ?_
  exact ok_nil
 replace hS:=SymF.fb hS hF [0,1] [⟨(p1 0).N,#[.bool g,.string s,.int .i64 x],23,true⟩,⟨(p1 1).N,#[.bool g,.string s2,.int .i64 x2],23,true⟩] (by kernel_rfl) (by kernel_rfl)
 replace hG:=hF.gx
 clear hF
 have z12:=hS.fr.size
 refine wp_ret ?_
 exact sym_end hS hK (.bool true) [] [] (by kernel_rfl) (by kernel_rfl) ⟨rfl,hS.fr⟩
theorem near_3z (w:World) (g:Bool) (s:ByteArray) (x:Int) (s2:ByteArray) (x2:Int) (n k hf:Int) (hk:n - 1 = k) (hn0:-1000000≤n) (hn1:n≤1000000) (hq:(s2.toList != (⟨#[]⟩:ByteArray).toList) = false) (HK:Hid (∀ W:World,Calls Tryz.prog 25 #[.agg #[.bool g,.string s2,.int .i64 x2]] W fun e W'=>e = .returned (.int .i64 0)∧Below W.heap.size W W')) (HM:Hid (∀ W:World,Calls Tryz.prog 11 #[.agg #[.bool g,.string s2,.int .i64 x2],.agg #[.bool g,.string s,.int .i64 x]] W fun e W'=>e = .returned (.tuple #[.int .i64 1,.int .i64 0])∧Below W.heap.size W W')) (HU:Hid (∀ W:World,Calls Tryz.prog 57 #[.agg #[.bool g,.string s,.int .i64 x],.agg #[.bool g,.string s2,.int .i64 x2],.string ⟨#[49]⟩,.int .i64 n] W fun e W'=>e = .returned (.tuple #[.int .i64 (-1),.bool true])∧Below W.heap.size W W')) (HV:Hid (∀ W:World,Calls Tryz.prog 57 #[.agg #[.bool g,.string s,.int .i64 x],.agg #[.bool g,.string s2,.int .i64 x2],.string ⟨#[53]⟩,.int .i64 k] W fun e W'=>e = .returned (.tuple #[.int .i64 hf,.bool true])∧Below W.heap.size W W')) :
  Calls Tryz.prog 19 #[.agg #[.bool g,.string s,.int .i64 x],.agg #[.bool g,.string s2,.int .i64 x2],.bool false,.int .i64 n,.int .u8 3] w fun en w'=>en = .returned (.bool true)∧Below w.heap.size w w':=by
 refine calls_sym Tryz.func19 rfl (by kernel_rfl) fun T hK=>?_
 replace hK:Kn T _ [(0,.agg #[.bool g,.string s,.int .i64 x]),(1,.agg #[.bool g,.string s2,.int .i64 x2]),(2,.bool false),(3,.int .i64 n),(4,.int .u8 3)]:=hK
 have hS:=Fb.begin w
 have hG:GsAt [] w:=trivial
 refine wp_symQ hS hG hK (fun p1=>[.n 5 #[.bool g,.string s,.int .i64 x] 23,.n 6 #[.bool g,.string s2,.int .i64 x2] 23,.v 10 (.bool false)]) (fun p1=>[(2,.bool false),(3,.int .i64 n),(4,.int .u8 3),(5,.pointer (some ⟨(p1 0).N,0,none⟩)),(6,.pointer (some ⟨(p1 1).N,0,none⟩)),(10,.bool false)]) (by kernel_rfl) (fun _ _=>by kernel_rfl) (fun _=>by kernel_rfl) (fun _=>by kernel_rfl) (fun p1=>?_) (fun p1 W1 T hF hK=>?_)
 ·iterate 2 refine ok_n (fun _=>by kernel_rfl) ?_
  refine ok_v (by kernel_rfl) ?_
  exact ok_nil
 replace hS:=SymF.fb hS hF [1000,1001] [⟨(p1 0).N,#[.bool g,.string s,.int .i64 x],23,true⟩,⟨(p1 1).N,#[.bool g,.string s2,.int .i64 x2],23,true⟩] (by kernel_rfl) (by kernel_rfl)
 replace hG:=hF.gx
 clear hF
 have z1:=hS.fr.size
 refine wp_seq ?_
 refine wp_symQ hS hG hK (fun p2=>[.l 17 (.agg #[.bool g,.string s2,.int .i64 x2]) 1 0,.c (some 18) (cV (.int .i64 0)),.v 19 (.bool false),.v 20 (.bool false),.v 21 (.pointer (some ⟨(p1 1).N,0,none⟩)),.l 22 (.bool g) 1 0,.v 23 (.pointer (some ⟨(p1 0).N,0,none⟩)),.l 24 (.bool g) 0 0,.v 25 (.bool false),.v 26 (.bool false),.v 27 (.bool false),.v 28 (.pointer (some ⟨(p1 1).N,1,none⟩)),.l 29 (.string s2) 1 1,.v 30 (.bool false),.v 31 (.bool false),.k (some 32),.k (some 33),.k (some 34),.k (some 35),.v 36 (.bool false),.v 37 (.bool false)]) (fun p2=>[(2,.bool false),(3,.int .i64 n),(4,.int .u8 3),(5,.pointer (some ⟨(p1 0).N,0,none⟩)),(6,.pointer (some ⟨(p1 1).N,0,none⟩)),(10,.bool false),(37,.bool false)]) (by kernel_rfl) (fun _ _=>by kernel_rfl) (fun _=>by kernel_rfl) (fun _=>by kernel_rfl) (fun p2=>?_) (fun p2 W2 T hF hK=>?_)
 ·refine ok_L (by kernel_rfl) (by kernel_rfl) (by kernel_rfl) ?_
  refine ok_c (fun W cx=>as_v (unhide HK _)) (by kernel_rfl) ?_
  iterate 3 refine ok_v (by kernel_rfl) ?_
  refine ok_L (by kernel_rfl) (by kernel_rfl) (by kernel_rfl) ?_
  refine ok_v (by kernel_rfl) ?_
  refine ok_L (by kernel_rfl) (by kernel_rfl) (by kernel_rfl) ?_
  refine ok_vb (show (g != g) = false by cases g <;> rfl) (by kernel_rfl) ?_
  iterate 3 refine ok_v (by kernel_rfl) ?_
  refine ok_L (by kernel_rfl) (by kernel_rfl) (by kernel_rfl) ?_
  refine ok_vb (hq) (by kernel_rfl) ?_
  refine ok_v (by kernel_rfl) ?_
  iterate 4 refine ok_K (by kernel_rfl) ?_
  iterate 2 refine ok_v (by kernel_rfl) ?_
  exact ok_nil
 replace hS:=SymF.fb hS hF [0,1] [⟨(p1 0).N,#[.bool g,.string s,.int .i64 x],23,true⟩,⟨(p1 1).N,#[.bool g,.string s2,.int .i64 x2],23,true⟩] (by kernel_rfl) (by kernel_rfl)
 replace hG:=hF.gx
 clear hF
 have z2:=hS.fr.size
 refine wp_cond_false (hK.ev 37 (by kernel_rfl) _ (by kernel_rfl)) ?_
 refine wp_skip ?_
 refine then_n ?_
 refine wp_seq ?_
 refine wp_symQ hS hG hK (fun p3=>[.v 38 (.bool false)]) (fun p3=>[(3,.int .i64 n),(4,.int .u8 3),(5,.pointer (some ⟨(p1 0).N,0,none⟩)),(6,.pointer (some ⟨(p1 1).N,0,none⟩)),(10,.bool false),(37,.bool false),(38,.bool false)]) (by kernel_rfl) (fun _ _=>by kernel_rfl) (fun _=>by kernel_rfl) (fun _=>by kernel_rfl) (fun p3=>?_) (fun p3 W3 T hF hK=>?_)
 ·refine ok_v (by kernel_rfl) ?_
  exact ok_nil
 replace hS:=SymF.fb hS hF [0,1] [⟨(p1 0).N,#[.bool g,.string s,.int .i64 x],23,true⟩,⟨(p1 1).N,#[.bool g,.string s2,.int .i64 x2],23,true⟩] (by kernel_rfl) (by kernel_rfl)
 replace hG:=hF.gx
 clear hF
 have z3:=hS.fr.size
 refine wp_cond_false (hK.ev 38 (by kernel_rfl) _ (by kernel_rfl)) ?_
 refine wp_skip ?_
 refine then_n ?_
 refine wp_symQ hS hG hK (fun p4=>[.l 43 (.agg #[.bool g,.string s2,.int .i64 x2]) 1 0,.l 44 (.agg #[.bool g,.string s,.int .i64 x]) 0 0,.c (some 45) (cV (.tuple #[.int .i64 1,.int .i64 0])),.v 42 (.tuple #[.int .i64 1,.int .i64 0]),.v 46 (.int .i64 1),.v 47 (.int .i64 0),.v 11 (.int .i64 1),.v 12 (.int .i64 0)]) (fun p4=>[(3,.int .i64 n),(4,.int .u8 3),(5,.pointer (some ⟨(p1 0).N,0,none⟩)),(6,.pointer (some ⟨(p1 1).N,0,none⟩)),(10,.bool false),(11,.int .i64 1),(12,.int .i64 0),(37,.bool false),(38,.bool false)]) (by kernel_rfl) (fun _ _=>by kernel_rfl) (fun _=>by kernel_rfl) (fun _=>by kernel_rfl) (fun p4=>?_) (fun p4 W4 T hF hK=>?_)
 ·iterate 2 refine ok_L (by kernel_rfl) (by kernel_rfl) (by kernel_rfl) ?_
  refine ok_c (fun W cx=>as_v (unhide HM _)) (by kernel_rfl) ?_
  iterate 5 refine ok_v (by kernel_rfl) ?_
  exact ok_nil
 replace hS:=SymF.fb hS hF [0,1] [⟨(p1 0).N,#[.bool g,.string s,.int .i64 x],23,true⟩,⟨(p1 1).N,#[.bool g,.string s2,.int .i64 x2],23,true⟩] (by kernel_rfl) (by kernel_rfl)
 replace hG:=hF.gx
 clear hF
 have z4:=hS.fr.size
 refine wp_symQ hS hG hK (fun p5=>[.l 49 (.agg #[.bool g,.string s,.int .i64 x]) 0 0,.l 50 (.agg #[.bool g,.string s2,.int .i64 x2]) 1 0,.v 51 (.int .i64 n),.c (some 52) (cV (.tuple #[.int .i64 (-1),.bool true])),.v 48 (.tuple #[.int .i64 (-1),.bool true]),.v 53 (.int .i64 (-1)),.v 54 (.bool true),.v 13 (.int .i64 (-1)),.v 14 (.bool true)]) (fun p5=>[(3,.int .i64 n),(4,.int .u8 3),(5,.pointer (some ⟨(p1 0).N,0,none⟩)),(6,.pointer (some ⟨(p1 1).N,0,none⟩)),(10,.bool false),(11,.int .i64 1),(12,.int .i64 0),(13,.int .i64 (-1)),(14,.bool true),(37,.bool false),(38,.bool false)]) (by kernel_rfl) (fun _ _=>by kernel_rfl) (fun _=>by kernel_rfl) (fun _=>by kernel_rfl) (fun p5=>?_) (fun p5 W5 T hF hK=>?_)
 ·iterate 2 refine ok_L (by kernel_rfl) (by kernel_rfl) (by kernel_rfl) ?_
  refine ok_v (by kernel_rfl) ?_
  refine ok_c (fun W cx=>as_v (unhide HU _)) (by kernel_rfl) ?_
  iterate 5 refine ok_v (by kernel_rfl) ?_
  exact ok_nil
 replace hS:=SymF.fb hS hF [0,1] [⟨(p1 0).N,#[.bool g,.string s,.int .i64 x],23,true⟩,⟨(p1 1).N,#[.bool g,.string s2,.int .i64 x2],23,true⟩] (by kernel_rfl) (by kernel_rfl)
 replace hG:=hF.gx
 clear hF
 have z5:=hS.fr.size
 refine wp_symQ hS hG hK (fun p6=>[.l 56 (.agg #[.bool g,.string s,.int .i64 x]) 0 0,.l 57 (.agg #[.bool g,.string s2,.int .i64 x2]) 1 0,.v 58 (.int .i64 n),.v 59 (.int .i64 k),.c (some 60) (cV (.tuple #[.int .i64 hf,.bool true])),.v 55 (.tuple #[.int .i64 hf,.bool true]),.v 61 (.int .i64 hf),.v 62 (.bool true),.v 15 (.int .i64 hf),.v 16 (.bool true)]) (fun p6=>[(4,.int .u8 3),(5,.pointer (some ⟨(p1 0).N,0,none⟩)),(6,.pointer (some ⟨(p1 1).N,0,none⟩)),(10,.bool false),(11,.int .i64 1),(12,.int .i64 0),(13,.int .i64 (-1)),(14,.bool true),(15,.int .i64 hf),(16,.bool true),(37,.bool false),(38,.bool false)]) (by kernel_rfl) (fun _ _=>by kernel_rfl) (fun _=>by kernel_rfl) (fun _=>by kernel_rfl) (fun p6=>?_) (fun p6 W6 T hF hK=>?_)
 ·iterate 2 refine ok_L (by kernel_rfl) (by kernel_rfl) (by kernel_rfl) ?_
  refine ok_v (by kernel_rfl) ?_
  refine ok_vi ((wr64 (x:=n - 1) (by omega) (by omega)).trans hk) (by kernel_rfl) ?_
  refine ok_c (fun W cx=>as_v (unhide HV _)) (by kernel_rfl) ?_
  iterate 5 refine ok_v (by kernel_rfl) ?_
  exact ok_nil
 replace hS:=SymF.fb hS hF [0,1] [⟨(p1 0).N,#[.bool g,.string s,.int .i64 x],23,true⟩,⟨(p1 1).N,#[.bool g,.string s2,.int .i64 x2],23,true⟩] (by kernel_rfl) (by kernel_rfl)
 replace hG:=hF.gx
 clear hF
 have z6:=hS.fr.size
 refine wp_seq ?_
 refine wp_symQ hS hG hK (fun p7=>[.v 63 (.int .i64 0),.v 64 (.bool false),.v 65 (.bool false),.v 66 (.bool true),.v 67 (.bool false),.v 68 (.bool false),.v 69 (.bool false),.v 70 (.bool true),.v 71 (.bool false),.v 72 (.bool false),.v 73 (.bool false),.v 74 (.int .i64 1),.v 75 (.bool false),.v 76 (.bool false),.v 77 (.bool false),.v 78 (.int .i64 (-1)),.v 79 (.bool false),.v 80 (.bool false)]) (fun p7=>[(4,.int .u8 3),(5,.pointer (some ⟨(p1 0).N,0,none⟩)),(6,.pointer (some ⟨(p1 1).N,0,none⟩)),(10,.bool false),(11,.int .i64 1),(13,.int .i64 (-1)),(15,.int .i64 hf),(37,.bool false),(38,.bool false),(80,.bool false)]) (by kernel_rfl) (fun _ _=>by kernel_rfl) (fun _=>by kernel_rfl) (fun _=>by kernel_rfl) (fun p7=>?_) (fun p7 W7 T hF hK=>?_)
 ·iterate 18 refine ok_v (by kernel_rfl) ?_
  exact ok_nil
 replace hS:=SymF.fb hS hF [0,1] [⟨(p1 0).N,#[.bool g,.string s,.int .i64 x],23,true⟩,⟨(p1 1).N,#[.bool g,.string s2,.int .i64 x2],23,true⟩] (by kernel_rfl) (by kernel_rfl)
 replace hG:=hF.gx
 clear hF
 have z7:=hS.fr.size
 refine wp_cond_false (hK.ev 80 (by kernel_rfl) _ (by kernel_rfl)) ?_
 refine wp_skip ?_
 refine then_n ?_
 refine wp_seq ?_
 refine wp_symQ hS hG hK (fun p8=>[.v 81 (.int .u8 3)]) (fun p8=>[(5,.pointer (some ⟨(p1 0).N,0,none⟩)),(6,.pointer (some ⟨(p1 1).N,0,none⟩)),(10,.bool false),(11,.int .i64 1),(13,.int .i64 (-1)),(15,.int .i64 hf),(37,.bool false),(38,.bool false),(80,.bool false),(81,.int .u8 3)]) (by kernel_rfl) (fun _ _=>by kernel_rfl) (fun _=>by kernel_rfl) (fun _=>by kernel_rfl) (fun p8=>?_) (fun p8 W8 T hF hK=>?_)
 ·refine ok_v (by kernel_rfl) ?_
  exact ok_nil
 replace hS:=SymF.fb hS hF [0,1] [⟨(p1 0).N,#[.bool g,.string s,.int .i64 x],23,true⟩,⟨(p1 1).N,#[.bool g,.string s2,.int .i64 x2],23,true⟩] (by kernel_rfl) (by kernel_rfl)
 replace hG:=hF.gx
 clear hF
 have z8:=hS.fr.size
 refine wp_block ?_
 refine wp_symQ hS hG hK (fun p9=>[.v 83 (.bool true),.v 82 (.bool true)]) (fun p9=>[(5,.pointer (some ⟨(p1 0).N,0,none⟩)),(6,.pointer (some ⟨(p1 1).N,0,none⟩)),(10,.bool false),(11,.int .i64 1),(13,.int .i64 (-1)),(15,.int .i64 hf),(37,.bool false),(38,.bool false),(80,.bool false),(81,.int .u8 3),(82,.bool true)]) (by kernel_rfl) (fun _ _=>by kernel_rfl) (fun _=>by kernel_rfl) (fun _=>by kernel_rfl) (fun p9=>?_) (fun p9 W9 T hF hK=>?_)
 ·iterate 2 refine ok_v (by kernel_rfl) ?_
  exact ok_nil
 replace hS:=SymF.fb hS hF [0,1] [⟨(p1 0).N,#[.bool g,.string s,.int .i64 x],23,true⟩,⟨(p1 1).N,#[.bool g,.string s2,.int .i64 x2],23,true⟩] (by kernel_rfl) (by kernel_rfl)
 replace hG:=hF.gx
 clear hF
 have z9:=hS.fr.size
 refine wp_cond_true (hK.ev 82 (by kernel_rfl) _ (by kernel_rfl)) ?_
 refine wp_symQ hS hG hK (fun p10=>[.v 84 (.int .i64 1),.v 85 (.bool true),.v 86 (.bool true),.v 87 (.int .i64 (-1)),.v 88 (.bool true),.v 89 (.bool true),.v 10 (.bool true)]) (fun p10=>[(5,.pointer (some ⟨(p1 0).N,0,none⟩)),(6,.pointer (some ⟨(p1 1).N,0,none⟩)),(10,.bool true),(11,.int .i64 1),(13,.int .i64 (-1)),(15,.int .i64 hf),(37,.bool false),(38,.bool false),(80,.bool false),(81,.int .u8 3),(82,.bool true)]) (by kernel_rfl) (fun _ _=>by kernel_rfl) (fun _=>by kernel_rfl) (fun _=>by kernel_rfl) (fun p10=>?_) (fun p10 W10 T hF hK=>?_)
 ·iterate 7 refine ok_v (by kernel_rfl) ?_
  exact ok_nil
 replace hS:=SymF.fb hS hF [0,1] [⟨(p1 0).N,#[.bool g,.string s,.int .i64 x],23,true⟩,⟨(p1 1).N,#[.bool g,.string s2,.int .i64 x2],23,true⟩] (by kernel_rfl) (by kernel_rfl)
 replace hG:=hF.gx
 clear hF
 have z10:=hS.fr.size
 refine wp_ret ?_
 refine inb_r ?_
 refine then_r ?_
 exact sym_end hS hK (.bool true) [] [] (by kernel_rfl) (by kernel_rfl) ⟨rfl,hS.fr⟩
theorem near_3n (w:World) (g:Bool) (s:ByteArray) (x:Int) (s2:ByteArray) (x2:Int) (n k hf:Int) (hk:n - 1 = k) (hn0:-1000000≤n) (hn1:n≤1000000) (hq:(s2.toList != (⟨#[]⟩:ByteArray).toList) = true) (hx:n≤x2) (HK:Hid (∀ W:World,Calls Tryz.prog 25 #[.agg #[.bool g,.string s2,.int .i64 x2]] W fun e W'=>e = .returned (.int .i64 0)∧Below W.heap.size W W')) (HM:Hid (∀ W:World,Calls Tryz.prog 11 #[.agg #[.bool g,.string s2,.int .i64 x2],.agg #[.bool g,.string s,.int .i64 x]] W fun e W'=>e = .returned (.tuple #[.int .i64 1,.int .i64 0])∧Below W.heap.size W W')) (HU:Hid (∀ W:World,Calls Tryz.prog 57 #[.agg #[.bool g,.string s,.int .i64 x],.agg #[.bool g,.string s2,.int .i64 x2],.string ⟨#[49]⟩,.int .i64 n] W fun e W'=>e = .returned (.tuple #[.int .i64 (-1),.bool true])∧Below W.heap.size W W')) (HV:Hid (∀ W:World,Calls Tryz.prog 57 #[.agg #[.bool g,.string s,.int .i64 x],.agg #[.bool g,.string s2,.int .i64 x2],.string ⟨#[53]⟩,.int .i64 k] W fun e W'=>e = .returned (.tuple #[.int .i64 hf,.bool true])∧Below W.heap.size W W')) :
  Calls Tryz.prog 19 #[.agg #[.bool g,.string s,.int .i64 x],.agg #[.bool g,.string s2,.int .i64 x2],.bool false,.int .i64 n,.int .u8 3] w fun en w'=>en = .returned (.bool true)∧Below w.heap.size w w':=by
 refine calls_sym Tryz.func19 rfl (by kernel_rfl) fun T hK=>?_
 replace hK:Kn T _ [(0,.agg #[.bool g,.string s,.int .i64 x]),(1,.agg #[.bool g,.string s2,.int .i64 x2]),(2,.bool false),(3,.int .i64 n),(4,.int .u8 3)]:=hK
 have hS:=Fb.begin w
 have hG:GsAt [] w:=trivial
 refine wp_symQ hS hG hK (fun p1=>[.n 5 #[.bool g,.string s,.int .i64 x] 23,.n 6 #[.bool g,.string s2,.int .i64 x2] 23,.v 10 (.bool false)]) (fun p1=>[(2,.bool false),(3,.int .i64 n),(4,.int .u8 3),(5,.pointer (some ⟨(p1 0).N,0,none⟩)),(6,.pointer (some ⟨(p1 1).N,0,none⟩)),(10,.bool false)]) (by kernel_rfl) (fun _ _=>by kernel_rfl) (fun _=>by kernel_rfl) (fun _=>by kernel_rfl) (fun p1=>?_) (fun p1 W1 T hF hK=>?_)
 ·iterate 2 refine ok_n (fun _=>by kernel_rfl) ?_
  refine ok_v (by kernel_rfl) ?_
  exact ok_nil
 replace hS:=SymF.fb hS hF [1000,1001] [⟨(p1 0).N,#[.bool g,.string s,.int .i64 x],23,true⟩,⟨(p1 1).N,#[.bool g,.string s2,.int .i64 x2],23,true⟩] (by kernel_rfl) (by kernel_rfl)
 replace hG:=hF.gx
 clear hF
 have z1:=hS.fr.size
 refine wp_seq ?_
 refine wp_symQ hS hG hK (fun p2=>[.l 17 (.agg #[.bool g,.string s2,.int .i64 x2]) 1 0,.c (some 18) (cV (.int .i64 0)),.v 19 (.bool false),.v 20 (.bool false),.v 21 (.pointer (some ⟨(p1 1).N,0,none⟩)),.l 22 (.bool g) 1 0,.v 23 (.pointer (some ⟨(p1 0).N,0,none⟩)),.l 24 (.bool g) 0 0,.v 25 (.bool false),.v 26 (.bool false),.v 27 (.bool false),.v 28 (.pointer (some ⟨(p1 1).N,1,none⟩)),.l 29 (.string s2) 1 1,.v 30 (.bool true),.v 31 (.bool true),.v 32 (.pointer (some ⟨(p1 1).N,2,none⟩)),.l 33 (.int .i64 x2) 1 2,.v 34 (.int .i64 n),.v 35 (.bool false),.v 36 (.bool false),.v 37 (.bool false)]) (fun p2=>[(2,.bool false),(3,.int .i64 n),(4,.int .u8 3),(5,.pointer (some ⟨(p1 0).N,0,none⟩)),(6,.pointer (some ⟨(p1 1).N,0,none⟩)),(10,.bool false),(37,.bool false)]) (by kernel_rfl) (fun _ _=>by kernel_rfl) (fun _=>by kernel_rfl) (fun _=>by kernel_rfl) (fun p2=>?_) (fun p2 W2 T hF hK=>?_)
 ·refine ok_L (by kernel_rfl) (by kernel_rfl) (by kernel_rfl) ?_
  refine ok_c (fun W cx=>as_v (unhide HK _)) (by kernel_rfl) ?_
  iterate 3 refine ok_v (by kernel_rfl) ?_
  refine ok_L (by kernel_rfl) (by kernel_rfl) (by kernel_rfl) ?_
  refine ok_v (by kernel_rfl) ?_
  refine ok_L (by kernel_rfl) (by kernel_rfl) (by kernel_rfl) ?_
  refine ok_vb (show (g != g) = false by cases g <;> rfl) (by kernel_rfl) ?_
  iterate 3 refine ok_v (by kernel_rfl) ?_
  refine ok_L (by kernel_rfl) (by kernel_rfl) (by kernel_rfl) ?_
  refine ok_vb (hq) (by kernel_rfl) ?_
  iterate 2 refine ok_v (by kernel_rfl) ?_
  refine ok_L (by kernel_rfl) (by kernel_rfl) (by kernel_rfl) ?_
  refine ok_v (by kernel_rfl) ?_
  refine ok_vb (decide_eq_false (show ¬ x2 < n by omega)) (by kernel_rfl) ?_
  iterate 2 refine ok_v (by kernel_rfl) ?_
  exact ok_nil
 replace hS:=SymF.fb hS hF [0,1] [⟨(p1 0).N,#[.bool g,.string s,.int .i64 x],23,true⟩,⟨(p1 1).N,#[.bool g,.string s2,.int .i64 x2],23,true⟩] (by kernel_rfl) (by kernel_rfl)
 replace hG:=hF.gx
 clear hF
 have z2:=hS.fr.size
 refine wp_cond_false (hK.ev 37 (by kernel_rfl) _ (by kernel_rfl)) ?_
 refine wp_skip ?_
 refine then_n ?_
 refine wp_seq ?_
 refine wp_symQ hS hG hK (fun p3=>[.v 38 (.bool false)]) (fun p3=>[(3,.int .i64 n),(4,.int .u8 3),(5,.pointer (some ⟨(p1 0).N,0,none⟩)),(6,.pointer (some ⟨(p1 1).N,0,none⟩)),(10,.bool false),(37,.bool false),(38,.bool false)]) (by kernel_rfl) (fun _ _=>by kernel_rfl) (fun _=>by kernel_rfl) (fun _=>by kernel_rfl) (fun p3=>?_) (fun p3 W3 T hF hK=>?_)
 ·refine ok_v (by kernel_rfl) ?_
  exact ok_nil
 replace hS:=SymF.fb hS hF [0,1] [⟨(p1 0).N,#[.bool g,.string s,.int .i64 x],23,true⟩,⟨(p1 1).N,#[.bool g,.string s2,.int .i64 x2],23,true⟩] (by kernel_rfl) (by kernel_rfl)
 replace hG:=hF.gx
 clear hF
 have z3:=hS.fr.size
 refine wp_cond_false (hK.ev 38 (by kernel_rfl) _ (by kernel_rfl)) ?_
 refine wp_skip ?_
 refine then_n ?_
 refine wp_symQ hS hG hK (fun p4=>[.l 43 (.agg #[.bool g,.string s2,.int .i64 x2]) 1 0,.l 44 (.agg #[.bool g,.string s,.int .i64 x]) 0 0,.c (some 45) (cV (.tuple #[.int .i64 1,.int .i64 0])),.v 42 (.tuple #[.int .i64 1,.int .i64 0]),.v 46 (.int .i64 1),.v 47 (.int .i64 0),.v 11 (.int .i64 1),.v 12 (.int .i64 0)]) (fun p4=>[(3,.int .i64 n),(4,.int .u8 3),(5,.pointer (some ⟨(p1 0).N,0,none⟩)),(6,.pointer (some ⟨(p1 1).N,0,none⟩)),(10,.bool false),(11,.int .i64 1),(12,.int .i64 0),(37,.bool false),(38,.bool false)]) (by kernel_rfl) (fun _ _=>by kernel_rfl) (fun _=>by kernel_rfl) (fun _=>by kernel_rfl) (fun p4=>?_) (fun p4 W4 T hF hK=>?_)
 ·iterate 2 refine ok_L (by kernel_rfl) (by kernel_rfl) (by kernel_rfl) ?_
  refine ok_c (fun W cx=>as_v (unhide HM _)) (by kernel_rfl) ?_
  iterate 5 refine ok_v (by kernel_rfl) ?_
  exact ok_nil
 replace hS:=SymF.fb hS hF [0,1] [⟨(p1 0).N,#[.bool g,.string s,.int .i64 x],23,true⟩,⟨(p1 1).N,#[.bool g,.string s2,.int .i64 x2],23,true⟩] (by kernel_rfl) (by kernel_rfl)
 replace hG:=hF.gx
 clear hF
 have z4:=hS.fr.size
 refine wp_symQ hS hG hK (fun p5=>[.l 49 (.agg #[.bool g,.string s,.int .i64 x]) 0 0,.l 50 (.agg #[.bool g,.string s2,.int .i64 x2]) 1 0,.v 51 (.int .i64 n),.c (some 52) (cV (.tuple #[.int .i64 (-1),.bool true])),.v 48 (.tuple #[.int .i64 (-1),.bool true]),.v 53 (.int .i64 (-1)),.v 54 (.bool true),.v 13 (.int .i64 (-1)),.v 14 (.bool true)]) (fun p5=>[(3,.int .i64 n),(4,.int .u8 3),(5,.pointer (some ⟨(p1 0).N,0,none⟩)),(6,.pointer (some ⟨(p1 1).N,0,none⟩)),(10,.bool false),(11,.int .i64 1),(12,.int .i64 0),(13,.int .i64 (-1)),(14,.bool true),(37,.bool false),(38,.bool false)]) (by kernel_rfl) (fun _ _=>by kernel_rfl) (fun _=>by kernel_rfl) (fun _=>by kernel_rfl) (fun p5=>?_) (fun p5 W5 T hF hK=>?_)
 ·iterate 2 refine ok_L (by kernel_rfl) (by kernel_rfl) (by kernel_rfl) ?_
  refine ok_v (by kernel_rfl) ?_
  refine ok_c (fun W cx=>as_v (unhide HU _)) (by kernel_rfl) ?_
  iterate 5 refine ok_v (by kernel_rfl) ?_
  exact ok_nil
 replace hS:=SymF.fb hS hF [0,1] [⟨(p1 0).N,#[.bool g,.string s,.int .i64 x],23,true⟩,⟨(p1 1).N,#[.bool g,.string s2,.int .i64 x2],23,true⟩] (by kernel_rfl) (by kernel_rfl)
 replace hG:=hF.gx
 clear hF
 have z5:=hS.fr.size
 refine wp_symQ hS hG hK (fun p6=>[.l 56 (.agg #[.bool g,.string s,.int .i64 x]) 0 0,.l 57 (.agg #[.bool g,.string s2,.int .i64 x2]) 1 0,.v 58 (.int .i64 n),.v 59 (.int .i64 k),.c (some 60) (cV (.tuple #[.int .i64 hf,.bool true])),.v 55 (.tuple #[.int .i64 hf,.bool true]),.v 61 (.int .i64 hf),.v 62 (.bool true),.v 15 (.int .i64 hf),.v 16 (.bool true)]) (fun p6=>[(4,.int .u8 3),(5,.pointer (some ⟨(p1 0).N,0,none⟩)),(6,.pointer (some ⟨(p1 1).N,0,none⟩)),(10,.bool false),(11,.int .i64 1),(12,.int .i64 0),(13,.int .i64 (-1)),(14,.bool true),(15,.int .i64 hf),(16,.bool true),(37,.bool false),(38,.bool false)]) (by kernel_rfl) (fun _ _=>by kernel_rfl) (fun _=>by kernel_rfl) (fun _=>by kernel_rfl) (fun p6=>?_) (fun p6 W6 T hF hK=>?_)
 ·iterate 2 refine ok_L (by kernel_rfl) (by kernel_rfl) (by kernel_rfl) ?_
  refine ok_v (by kernel_rfl) ?_
  refine ok_vi ((wr64 (x:=n - 1) (by omega) (by omega)).trans hk) (by kernel_rfl) ?_
  refine ok_c (fun W cx=>as_v (unhide HV _)) (by kernel_rfl) ?_
  iterate 5 refine ok_v (by kernel_rfl) ?_
  exact ok_nil
 replace hS:=SymF.fb hS hF [0,1] [⟨(p1 0).N,#[.bool g,.string s,.int .i64 x],23,true⟩,⟨(p1 1).N,#[.bool g,.string s2,.int .i64 x2],23,true⟩] (by kernel_rfl) (by kernel_rfl)
 replace hG:=hF.gx
 clear hF
 have z6:=hS.fr.size
 refine wp_seq ?_
 refine wp_symQ hS hG hK (fun p7=>[.v 63 (.int .i64 0),.v 64 (.bool false),.v 65 (.bool false),.v 66 (.bool true),.v 67 (.bool false),.v 68 (.bool false),.v 69 (.bool false),.v 70 (.bool true),.v 71 (.bool false),.v 72 (.bool false),.v 73 (.bool false),.v 74 (.int .i64 1),.v 75 (.bool false),.v 76 (.bool false),.v 77 (.bool false),.v 78 (.int .i64 (-1)),.v 79 (.bool false),.v 80 (.bool false)]) (fun p7=>[(4,.int .u8 3),(5,.pointer (some ⟨(p1 0).N,0,none⟩)),(6,.pointer (some ⟨(p1 1).N,0,none⟩)),(10,.bool false),(11,.int .i64 1),(13,.int .i64 (-1)),(15,.int .i64 hf),(37,.bool false),(38,.bool false),(80,.bool false)]) (by kernel_rfl) (fun _ _=>by kernel_rfl) (fun _=>by kernel_rfl) (fun _=>by kernel_rfl) (fun p7=>?_) (fun p7 W7 T hF hK=>?_)
 ·iterate 18 refine ok_v (by kernel_rfl) ?_
  exact ok_nil
 replace hS:=SymF.fb hS hF [0,1] [⟨(p1 0).N,#[.bool g,.string s,.int .i64 x],23,true⟩,⟨(p1 1).N,#[.bool g,.string s2,.int .i64 x2],23,true⟩] (by kernel_rfl) (by kernel_rfl)
 replace hG:=hF.gx
 clear hF
 have z7:=hS.fr.size
 refine wp_cond_false (hK.ev 80 (by kernel_rfl) _ (by kernel_rfl)) ?_
 refine wp_skip ?_
 refine then_n ?_
 refine wp_seq ?_
 refine wp_symQ hS hG hK (fun p8=>[.v 81 (.int .u8 3)]) (fun p8=>[(5,.pointer (some ⟨(p1 0).N,0,none⟩)),(6,.pointer (some ⟨(p1 1).N,0,none⟩)),(10,.bool false),(11,.int .i64 1),(13,.int .i64 (-1)),(15,.int .i64 hf),(37,.bool false),(38,.bool false),(80,.bool false),(81,.int .u8 3)]) (by kernel_rfl) (fun _ _=>by kernel_rfl) (fun _=>by kernel_rfl) (fun _=>by kernel_rfl) (fun p8=>?_) (fun p8 W8 T hF hK=>?_)
 ·refine ok_v (by kernel_rfl) ?_
  exact ok_nil
 replace hS:=SymF.fb hS hF [0,1] [⟨(p1 0).N,#[.bool g,.string s,.int .i64 x],23,true⟩,⟨(p1 1).N,#[.bool g,.string s2,.int .i64 x2],23,true⟩] (by kernel_rfl) (by kernel_rfl)
 replace hG:=hF.gx
 clear hF
 have z8:=hS.fr.size
 refine wp_block ?_
 refine wp_symQ hS hG hK (fun p9=>[.v 83 (.bool true),.v 82 (.bool true)]) (fun p9=>[(5,.pointer (some ⟨(p1 0).N,0,none⟩)),(6,.pointer (some ⟨(p1 1).N,0,none⟩)),(10,.bool false),(11,.int .i64 1),(13,.int .i64 (-1)),(15,.int .i64 hf),(37,.bool false),(38,.bool false),(80,.bool false),(81,.int .u8 3),(82,.bool true)]) (by kernel_rfl) (fun _ _=>by kernel_rfl) (fun _=>by kernel_rfl) (fun _=>by kernel_rfl) (fun p9=>?_) (fun p9 W9 T hF hK=>?_)
 ·iterate 2 refine ok_v (by kernel_rfl) ?_
  exact ok_nil
 replace hS:=SymF.fb hS hF [0,1] [⟨(p1 0).N,#[.bool g,.string s,.int .i64 x],23,true⟩,⟨(p1 1).N,#[.bool g,.string s2,.int .i64 x2],23,true⟩] (by kernel_rfl) (by kernel_rfl)
 replace hG:=hF.gx
 clear hF
 have z9:=hS.fr.size
 refine wp_cond_true (hK.ev 82 (by kernel_rfl) _ (by kernel_rfl)) ?_
 refine wp_symQ hS hG hK (fun p10=>[.v 84 (.int .i64 1),.v 85 (.bool true),.v 86 (.bool true),.v 87 (.int .i64 (-1)),.v 88 (.bool true),.v 89 (.bool true),.v 10 (.bool true)]) (fun p10=>[(5,.pointer (some ⟨(p1 0).N,0,none⟩)),(6,.pointer (some ⟨(p1 1).N,0,none⟩)),(10,.bool true),(11,.int .i64 1),(13,.int .i64 (-1)),(15,.int .i64 hf),(37,.bool false),(38,.bool false),(80,.bool false),(81,.int .u8 3),(82,.bool true)]) (by kernel_rfl) (fun _ _=>by kernel_rfl) (fun _=>by kernel_rfl) (fun _=>by kernel_rfl) (fun p10=>?_) (fun p10 W10 T hF hK=>?_)
 ·iterate 7 refine ok_v (by kernel_rfl) ?_
  exact ok_nil
 replace hS:=SymF.fb hS hF [0,1] [⟨(p1 0).N,#[.bool g,.string s,.int .i64 x],23,true⟩,⟨(p1 1).N,#[.bool g,.string s2,.int .i64 x2],23,true⟩] (by kernel_rfl) (by kernel_rfl)
 replace hG:=hF.gx
 clear hF
 have z10:=hS.fr.size
 refine wp_ret ?_
 refine inb_r ?_
 refine then_r ?_
 exact sym_end hS hK (.bool true) [] [] (by kernel_rfl) (by kernel_rfl) ⟨rfl,hS.fr⟩
theorem near_4z (w:World) (g:Bool) (s:ByteArray) (x:Int) (s2:ByteArray) (x2:Int) (n k hf:Int) (hk:n - 1 = k) (hn0:-1000000≤n) (hn1:n≤1000000) (hq:(s2.toList != (⟨#[]⟩:ByteArray).toList) = false) (HK:Hid (∀ W:World,Calls Tryz.prog 25 #[.agg #[.bool g,.string s2,.int .i64 x2]] W fun e W'=>e = .returned (.int .i64 0)∧Below W.heap.size W W')) (HM:Hid (∀ W:World,Calls Tryz.prog 11 #[.agg #[.bool g,.string s2,.int .i64 x2],.agg #[.bool g,.string s,.int .i64 x]] W fun e W'=>e = .returned (.tuple #[.int .i64 (-1),.int .i64 0])∧Below W.heap.size W W')) (HU:Hid (∀ W:World,Calls Tryz.prog 57 #[.agg #[.bool g,.string s,.int .i64 x],.agg #[.bool g,.string s2,.int .i64 x2],.string ⟨#[49]⟩,.int .i64 n] W fun e W'=>e = .returned (.tuple #[.int .i64 (-1),.bool true])∧Below W.heap.size W W')) (HV:Hid (∀ W:World,Calls Tryz.prog 57 #[.agg #[.bool g,.string s,.int .i64 x],.agg #[.bool g,.string s2,.int .i64 x2],.string ⟨#[53]⟩,.int .i64 k] W fun e W'=>e = .returned (.tuple #[.int .i64 hf,.bool true])∧Below W.heap.size W W')) :
  Calls Tryz.prog 19 #[.agg #[.bool g,.string s,.int .i64 x],.agg #[.bool g,.string s2,.int .i64 x2],.bool false,.int .i64 n,.int .u8 4] w fun en w'=>en = .returned (.bool true)∧Below w.heap.size w w':=by
 refine calls_sym Tryz.func19 rfl (by kernel_rfl) fun T hK=>?_
 replace hK:Kn T _ [(0,.agg #[.bool g,.string s,.int .i64 x]),(1,.agg #[.bool g,.string s2,.int .i64 x2]),(2,.bool false),(3,.int .i64 n),(4,.int .u8 4)]:=hK
 have hS:=Fb.begin w
 have hG:GsAt [] w:=trivial
 refine wp_symQ hS hG hK (fun p1=>[.n 5 #[.bool g,.string s,.int .i64 x] 23,.n 6 #[.bool g,.string s2,.int .i64 x2] 23,.v 10 (.bool false)]) (fun p1=>[(2,.bool false),(3,.int .i64 n),(4,.int .u8 4),(5,.pointer (some ⟨(p1 0).N,0,none⟩)),(6,.pointer (some ⟨(p1 1).N,0,none⟩)),(10,.bool false)]) (by kernel_rfl) (fun _ _=>by kernel_rfl) (fun _=>by kernel_rfl) (fun _=>by kernel_rfl) (fun p1=>?_) (fun p1 W1 T hF hK=>?_)
 ·iterate 2 refine ok_n (fun _=>by kernel_rfl) ?_
  refine ok_v (by kernel_rfl) ?_
  exact ok_nil
 replace hS:=SymF.fb hS hF [1000,1001] [⟨(p1 0).N,#[.bool g,.string s,.int .i64 x],23,true⟩,⟨(p1 1).N,#[.bool g,.string s2,.int .i64 x2],23,true⟩] (by kernel_rfl) (by kernel_rfl)
 replace hG:=hF.gx
 clear hF
 have z1:=hS.fr.size
 refine wp_seq ?_
 refine wp_symQ hS hG hK (fun p2=>[.l 17 (.agg #[.bool g,.string s2,.int .i64 x2]) 1 0,.c (some 18) (cV (.int .i64 0)),.v 19 (.bool false),.v 20 (.bool false),.v 21 (.pointer (some ⟨(p1 1).N,0,none⟩)),.l 22 (.bool g) 1 0,.v 23 (.pointer (some ⟨(p1 0).N,0,none⟩)),.l 24 (.bool g) 0 0,.v 25 (.bool false),.v 26 (.bool false),.v 27 (.bool false),.v 28 (.pointer (some ⟨(p1 1).N,1,none⟩)),.l 29 (.string s2) 1 1,.v 30 (.bool false),.v 31 (.bool false),.k (some 32),.k (some 33),.k (some 34),.k (some 35),.v 36 (.bool false),.v 37 (.bool false)]) (fun p2=>[(2,.bool false),(3,.int .i64 n),(4,.int .u8 4),(5,.pointer (some ⟨(p1 0).N,0,none⟩)),(6,.pointer (some ⟨(p1 1).N,0,none⟩)),(10,.bool false),(37,.bool false)]) (by kernel_rfl) (fun _ _=>by kernel_rfl) (fun _=>by kernel_rfl) (fun _=>by kernel_rfl) (fun p2=>?_) (fun p2 W2 T hF hK=>?_)
 ·refine ok_L (by kernel_rfl) (by kernel_rfl) (by kernel_rfl) ?_
  refine ok_c (fun W cx=>as_v (unhide HK _)) (by kernel_rfl) ?_
  iterate 3 refine ok_v (by kernel_rfl) ?_
  refine ok_L (by kernel_rfl) (by kernel_rfl) (by kernel_rfl) ?_
  refine ok_v (by kernel_rfl) ?_
  refine ok_L (by kernel_rfl) (by kernel_rfl) (by kernel_rfl) ?_
  refine ok_vb (show (g != g) = false by cases g <;> rfl) (by kernel_rfl) ?_
  iterate 3 refine ok_v (by kernel_rfl) ?_
  refine ok_L (by kernel_rfl) (by kernel_rfl) (by kernel_rfl) ?_
  refine ok_vb (hq) (by kernel_rfl) ?_
  refine ok_v (by kernel_rfl) ?_
  iterate 4 refine ok_K (by kernel_rfl) ?_
  iterate 2 refine ok_v (by kernel_rfl) ?_
  exact ok_nil
 replace hS:=SymF.fb hS hF [0,1] [⟨(p1 0).N,#[.bool g,.string s,.int .i64 x],23,true⟩,⟨(p1 1).N,#[.bool g,.string s2,.int .i64 x2],23,true⟩] (by kernel_rfl) (by kernel_rfl)
 replace hG:=hF.gx
 clear hF
 have z2:=hS.fr.size
 refine wp_cond_false (hK.ev 37 (by kernel_rfl) _ (by kernel_rfl)) ?_
 refine wp_skip ?_
 refine then_n ?_
 refine wp_seq ?_
 refine wp_symQ hS hG hK (fun p3=>[.v 38 (.bool false)]) (fun p3=>[(3,.int .i64 n),(4,.int .u8 4),(5,.pointer (some ⟨(p1 0).N,0,none⟩)),(6,.pointer (some ⟨(p1 1).N,0,none⟩)),(10,.bool false),(37,.bool false),(38,.bool false)]) (by kernel_rfl) (fun _ _=>by kernel_rfl) (fun _=>by kernel_rfl) (fun _=>by kernel_rfl) (fun p3=>?_) (fun p3 W3 T hF hK=>?_)
 ·refine ok_v (by kernel_rfl) ?_
  exact ok_nil
 replace hS:=SymF.fb hS hF [0,1] [⟨(p1 0).N,#[.bool g,.string s,.int .i64 x],23,true⟩,⟨(p1 1).N,#[.bool g,.string s2,.int .i64 x2],23,true⟩] (by kernel_rfl) (by kernel_rfl)
 replace hG:=hF.gx
 clear hF
 have z3:=hS.fr.size
 refine wp_cond_false (hK.ev 38 (by kernel_rfl) _ (by kernel_rfl)) ?_
 refine wp_skip ?_
 refine then_n ?_
 refine wp_symQ hS hG hK (fun p4=>[.l 43 (.agg #[.bool g,.string s2,.int .i64 x2]) 1 0,.l 44 (.agg #[.bool g,.string s,.int .i64 x]) 0 0,.c (some 45) (cV (.tuple #[.int .i64 (-1),.int .i64 0])),.v 42 (.tuple #[.int .i64 (-1),.int .i64 0]),.v 46 (.int .i64 (-1)),.v 47 (.int .i64 0),.v 11 (.int .i64 (-1)),.v 12 (.int .i64 0)]) (fun p4=>[(3,.int .i64 n),(4,.int .u8 4),(5,.pointer (some ⟨(p1 0).N,0,none⟩)),(6,.pointer (some ⟨(p1 1).N,0,none⟩)),(10,.bool false),(11,.int .i64 (-1)),(12,.int .i64 0),(37,.bool false),(38,.bool false)]) (by kernel_rfl) (fun _ _=>by kernel_rfl) (fun _=>by kernel_rfl) (fun _=>by kernel_rfl) (fun p4=>?_) (fun p4 W4 T hF hK=>?_)
 ·iterate 2 refine ok_L (by kernel_rfl) (by kernel_rfl) (by kernel_rfl) ?_
  refine ok_c (fun W cx=>as_v (unhide HM _)) (by kernel_rfl) ?_
  iterate 5 refine ok_v (by kernel_rfl) ?_
  exact ok_nil
 replace hS:=SymF.fb hS hF [0,1] [⟨(p1 0).N,#[.bool g,.string s,.int .i64 x],23,true⟩,⟨(p1 1).N,#[.bool g,.string s2,.int .i64 x2],23,true⟩] (by kernel_rfl) (by kernel_rfl)
 replace hG:=hF.gx
 clear hF
 have z4:=hS.fr.size
 refine wp_symQ hS hG hK (fun p5=>[.l 49 (.agg #[.bool g,.string s,.int .i64 x]) 0 0,.l 50 (.agg #[.bool g,.string s2,.int .i64 x2]) 1 0,.v 51 (.int .i64 n),.c (some 52) (cV (.tuple #[.int .i64 (-1),.bool true])),.v 48 (.tuple #[.int .i64 (-1),.bool true]),.v 53 (.int .i64 (-1)),.v 54 (.bool true),.v 13 (.int .i64 (-1)),.v 14 (.bool true)]) (fun p5=>[(3,.int .i64 n),(4,.int .u8 4),(5,.pointer (some ⟨(p1 0).N,0,none⟩)),(6,.pointer (some ⟨(p1 1).N,0,none⟩)),(10,.bool false),(11,.int .i64 (-1)),(12,.int .i64 0),(13,.int .i64 (-1)),(14,.bool true),(37,.bool false),(38,.bool false)]) (by kernel_rfl) (fun _ _=>by kernel_rfl) (fun _=>by kernel_rfl) (fun _=>by kernel_rfl) (fun p5=>?_) (fun p5 W5 T hF hK=>?_)
 ·iterate 2 refine ok_L (by kernel_rfl) (by kernel_rfl) (by kernel_rfl) ?_
  refine ok_v (by kernel_rfl) ?_
  refine ok_c (fun W cx=>as_v (unhide HU _)) (by kernel_rfl) ?_
  iterate 5 refine ok_v (by kernel_rfl) ?_
  exact ok_nil
 replace hS:=SymF.fb hS hF [0,1] [⟨(p1 0).N,#[.bool g,.string s,.int .i64 x],23,true⟩,⟨(p1 1).N,#[.bool g,.string s2,.int .i64 x2],23,true⟩] (by kernel_rfl) (by kernel_rfl)
 replace hG:=hF.gx
 clear hF
 have z5:=hS.fr.size
 refine wp_symQ hS hG hK (fun p6=>[.l 56 (.agg #[.bool g,.string s,.int .i64 x]) 0 0,.l 57 (.agg #[.bool g,.string s2,.int .i64 x2]) 1 0,.v 58 (.int .i64 n),.v 59 (.int .i64 k),.c (some 60) (cV (.tuple #[.int .i64 hf,.bool true])),.v 55 (.tuple #[.int .i64 hf,.bool true]),.v 61 (.int .i64 hf),.v 62 (.bool true),.v 15 (.int .i64 hf),.v 16 (.bool true)]) (fun p6=>[(4,.int .u8 4),(5,.pointer (some ⟨(p1 0).N,0,none⟩)),(6,.pointer (some ⟨(p1 1).N,0,none⟩)),(10,.bool false),(11,.int .i64 (-1)),(12,.int .i64 0),(13,.int .i64 (-1)),(14,.bool true),(15,.int .i64 hf),(16,.bool true),(37,.bool false),(38,.bool false)]) (by kernel_rfl) (fun _ _=>by kernel_rfl) (fun _=>by kernel_rfl) (fun _=>by kernel_rfl) (fun p6=>?_) (fun p6 W6 T hF hK=>?_)
 ·iterate 2 refine ok_L (by kernel_rfl) (by kernel_rfl) (by kernel_rfl) ?_
  refine ok_v (by kernel_rfl) ?_
  refine ok_vi ((wr64 (x:=n - 1) (by omega) (by omega)).trans hk) (by kernel_rfl) ?_
  refine ok_c (fun W cx=>as_v (unhide HV _)) (by kernel_rfl) ?_
  iterate 5 refine ok_v (by kernel_rfl) ?_
  exact ok_nil
 replace hS:=SymF.fb hS hF [0,1] [⟨(p1 0).N,#[.bool g,.string s,.int .i64 x],23,true⟩,⟨(p1 1).N,#[.bool g,.string s2,.int .i64 x2],23,true⟩] (by kernel_rfl) (by kernel_rfl)
 replace hG:=hF.gx
 clear hF
 have z6:=hS.fr.size
 refine wp_seq ?_
 refine wp_symQ hS hG hK (fun p7=>[.v 63 (.int .i64 0),.v 64 (.bool false),.v 65 (.bool false),.v 66 (.bool true),.v 67 (.bool false),.v 68 (.bool false),.v 69 (.bool false),.v 70 (.bool true),.v 71 (.bool false),.v 72 (.bool false),.v 73 (.bool false),.v 74 (.int .i64 (-1)),.v 75 (.bool false),.v 76 (.bool false),.v 77 (.bool false),.v 78 (.int .i64 (-1)),.v 79 (.bool false),.v 80 (.bool false)]) (fun p7=>[(4,.int .u8 4),(5,.pointer (some ⟨(p1 0).N,0,none⟩)),(6,.pointer (some ⟨(p1 1).N,0,none⟩)),(10,.bool false),(11,.int .i64 (-1)),(13,.int .i64 (-1)),(15,.int .i64 hf),(37,.bool false),(38,.bool false),(80,.bool false)]) (by kernel_rfl) (fun _ _=>by kernel_rfl) (fun _=>by kernel_rfl) (fun _=>by kernel_rfl) (fun p7=>?_) (fun p7 W7 T hF hK=>?_)
 ·iterate 18 refine ok_v (by kernel_rfl) ?_
  exact ok_nil
 replace hS:=SymF.fb hS hF [0,1] [⟨(p1 0).N,#[.bool g,.string s,.int .i64 x],23,true⟩,⟨(p1 1).N,#[.bool g,.string s2,.int .i64 x2],23,true⟩] (by kernel_rfl) (by kernel_rfl)
 replace hG:=hF.gx
 clear hF
 have z7:=hS.fr.size
 refine wp_cond_false (hK.ev 80 (by kernel_rfl) _ (by kernel_rfl)) ?_
 refine wp_skip ?_
 refine then_n ?_
 refine wp_seq ?_
 refine wp_symQ hS hG hK (fun p8=>[.v 81 (.int .u8 4)]) (fun p8=>[(5,.pointer (some ⟨(p1 0).N,0,none⟩)),(6,.pointer (some ⟨(p1 1).N,0,none⟩)),(10,.bool false),(11,.int .i64 (-1)),(13,.int .i64 (-1)),(15,.int .i64 hf),(37,.bool false),(38,.bool false),(80,.bool false),(81,.int .u8 4)]) (by kernel_rfl) (fun _ _=>by kernel_rfl) (fun _=>by kernel_rfl) (fun _=>by kernel_rfl) (fun p8=>?_) (fun p8 W8 T hF hK=>?_)
 ·refine ok_v (by kernel_rfl) ?_
  exact ok_nil
 replace hS:=SymF.fb hS hF [0,1] [⟨(p1 0).N,#[.bool g,.string s,.int .i64 x],23,true⟩,⟨(p1 1).N,#[.bool g,.string s2,.int .i64 x2],23,true⟩] (by kernel_rfl) (by kernel_rfl)
 replace hG:=hF.gx
 clear hF
 have z8:=hS.fr.size
 refine wp_block ?_
 refine wp_symQ hS hG hK (fun p9=>[.v 83 (.bool false),.v 82 (.bool false)]) (fun p9=>[(5,.pointer (some ⟨(p1 0).N,0,none⟩)),(6,.pointer (some ⟨(p1 1).N,0,none⟩)),(10,.bool false),(11,.int .i64 (-1)),(13,.int .i64 (-1)),(15,.int .i64 hf),(37,.bool false),(38,.bool false),(80,.bool false),(81,.int .u8 4),(82,.bool false)]) (by kernel_rfl) (fun _ _=>by kernel_rfl) (fun _=>by kernel_rfl) (fun _=>by kernel_rfl) (fun p9=>?_) (fun p9 W9 T hF hK=>?_)
 ·iterate 2 refine ok_v (by kernel_rfl) ?_
  exact ok_nil
 replace hS:=SymF.fb hS hF [0,1] [⟨(p1 0).N,#[.bool g,.string s,.int .i64 x],23,true⟩,⟨(p1 1).N,#[.bool g,.string s2,.int .i64 x2],23,true⟩] (by kernel_rfl) (by kernel_rfl)
 replace hG:=hF.gx
 clear hF
 have z9:=hS.fr.size
 refine wp_cond_false (hK.ev 82 (by kernel_rfl) _ (by kernel_rfl)) ?_
 refine wp_symQ hS hG hK (fun p10=>[.v 91 (.bool true),.v 90 (.bool true)]) (fun p10=>[(5,.pointer (some ⟨(p1 0).N,0,none⟩)),(6,.pointer (some ⟨(p1 1).N,0,none⟩)),(10,.bool false),(11,.int .i64 (-1)),(13,.int .i64 (-1)),(15,.int .i64 hf),(37,.bool false),(38,.bool false),(80,.bool false),(81,.int .u8 4),(82,.bool false),(90,.bool true)]) (by kernel_rfl) (fun _ _=>by kernel_rfl) (fun _=>by kernel_rfl) (fun _=>by kernel_rfl) (fun p10=>?_) (fun p10 W10 T hF hK=>?_)
 ·iterate 2 refine ok_v (by kernel_rfl) ?_
  exact ok_nil
 replace hS:=SymF.fb hS hF [0,1] [⟨(p1 0).N,#[.bool g,.string s,.int .i64 x],23,true⟩,⟨(p1 1).N,#[.bool g,.string s2,.int .i64 x2],23,true⟩] (by kernel_rfl) (by kernel_rfl)
 replace hG:=hF.gx
 clear hF
 have z10:=hS.fr.size
 refine wp_cond_true (hK.ev 90 (by kernel_rfl) _ (by kernel_rfl)) ?_
 refine wp_symQ hS hG hK (fun p11=>[.v 92 (.int .i64 (-1)),.v 93 (.bool true),.v 94 (.bool true),.v 95 (.int .i64 (-1)),.v 96 (.bool true),.v 97 (.bool true),.v 10 (.bool true)]) (fun p11=>[(5,.pointer (some ⟨(p1 0).N,0,none⟩)),(6,.pointer (some ⟨(p1 1).N,0,none⟩)),(10,.bool true),(11,.int .i64 (-1)),(13,.int .i64 (-1)),(15,.int .i64 hf),(37,.bool false),(38,.bool false),(80,.bool false),(81,.int .u8 4),(82,.bool false),(90,.bool true)]) (by kernel_rfl) (fun _ _=>by kernel_rfl) (fun _=>by kernel_rfl) (fun _=>by kernel_rfl) (fun p11=>?_) (fun p11 W11 T hF hK=>?_)
 ·iterate 7 refine ok_v (by kernel_rfl) ?_
  exact ok_nil
 replace hS:=SymF.fb hS hF [0,1] [⟨(p1 0).N,#[.bool g,.string s,.int .i64 x],23,true⟩,⟨(p1 1).N,#[.bool g,.string s2,.int .i64 x2],23,true⟩] (by kernel_rfl) (by kernel_rfl)
 replace hG:=hF.gx
 clear hF
 have z11:=hS.fr.size
 refine wp_ret ?_
 refine inb_r ?_
 refine then_r ?_
 exact sym_end hS hK (.bool true) [] [] (by kernel_rfl) (by kernel_rfl) ⟨rfl,hS.fr⟩
theorem near_4n (w:World) (g:Bool) (s:ByteArray) (x:Int) (s2:ByteArray) (x2:Int) (n k hf:Int) (hk:n - 1 = k) (hn0:-1000000≤n) (hn1:n≤1000000) (hq:(s2.toList != (⟨#[]⟩:ByteArray).toList) = true) (hx:n≤x2) (HK:Hid (∀ W:World,Calls Tryz.prog 25 #[.agg #[.bool g,.string s2,.int .i64 x2]] W fun e W'=>e = .returned (.int .i64 0)∧Below W.heap.size W W')) (HM:Hid (∀ W:World,Calls Tryz.prog 11 #[.agg #[.bool g,.string s2,.int .i64 x2],.agg #[.bool g,.string s,.int .i64 x]] W fun e W'=>e = .returned (.tuple #[.int .i64 (-1),.int .i64 0])∧Below W.heap.size W W')) (HU:Hid (∀ W:World,Calls Tryz.prog 57 #[.agg #[.bool g,.string s,.int .i64 x],.agg #[.bool g,.string s2,.int .i64 x2],.string ⟨#[49]⟩,.int .i64 n] W fun e W'=>e = .returned (.tuple #[.int .i64 (-1),.bool true])∧Below W.heap.size W W')) (HV:Hid (∀ W:World,Calls Tryz.prog 57 #[.agg #[.bool g,.string s,.int .i64 x],.agg #[.bool g,.string s2,.int .i64 x2],.string ⟨#[53]⟩,.int .i64 k] W fun e W'=>e = .returned (.tuple #[.int .i64 hf,.bool true])∧Below W.heap.size W W')) :
  Calls Tryz.prog 19 #[.agg #[.bool g,.string s,.int .i64 x],.agg #[.bool g,.string s2,.int .i64 x2],.bool false,.int .i64 n,.int .u8 4] w fun en w'=>en = .returned (.bool true)∧Below w.heap.size w w':=by
 refine calls_sym Tryz.func19 rfl (by kernel_rfl) fun T hK=>?_
 replace hK:Kn T _ [(0,.agg #[.bool g,.string s,.int .i64 x]),(1,.agg #[.bool g,.string s2,.int .i64 x2]),(2,.bool false),(3,.int .i64 n),(4,.int .u8 4)]:=hK
 have hS:=Fb.begin w
 have hG:GsAt [] w:=trivial
 refine wp_symQ hS hG hK (fun p1=>[.n 5 #[.bool g,.string s,.int .i64 x] 23,.n 6 #[.bool g,.string s2,.int .i64 x2] 23,.v 10 (.bool false)]) (fun p1=>[(2,.bool false),(3,.int .i64 n),(4,.int .u8 4),(5,.pointer (some ⟨(p1 0).N,0,none⟩)),(6,.pointer (some ⟨(p1 1).N,0,none⟩)),(10,.bool false)]) (by kernel_rfl) (fun _ _=>by kernel_rfl) (fun _=>by kernel_rfl) (fun _=>by kernel_rfl) (fun p1=>?_) (fun p1 W1 T hF hK=>?_)
 ·iterate 2 refine ok_n (fun _=>by kernel_rfl) ?_
  refine ok_v (by kernel_rfl) ?_
  exact ok_nil
 replace hS:=SymF.fb hS hF [1000,1001] [⟨(p1 0).N,#[.bool g,.string s,.int .i64 x],23,true⟩,⟨(p1 1).N,#[.bool g,.string s2,.int .i64 x2],23,true⟩] (by kernel_rfl) (by kernel_rfl)
 replace hG:=hF.gx
 clear hF
 have z1:=hS.fr.size
 refine wp_seq ?_
 refine wp_symQ hS hG hK (fun p2=>[.l 17 (.agg #[.bool g,.string s2,.int .i64 x2]) 1 0,.c (some 18) (cV (.int .i64 0)),.v 19 (.bool false),.v 20 (.bool false),.v 21 (.pointer (some ⟨(p1 1).N,0,none⟩)),.l 22 (.bool g) 1 0,.v 23 (.pointer (some ⟨(p1 0).N,0,none⟩)),.l 24 (.bool g) 0 0,.v 25 (.bool false),.v 26 (.bool false),.v 27 (.bool false),.v 28 (.pointer (some ⟨(p1 1).N,1,none⟩)),.l 29 (.string s2) 1 1,.v 30 (.bool true),.v 31 (.bool true),.v 32 (.pointer (some ⟨(p1 1).N,2,none⟩)),.l 33 (.int .i64 x2) 1 2,.v 34 (.int .i64 n),.v 35 (.bool false),.v 36 (.bool false),.v 37 (.bool false)]) (fun p2=>[(2,.bool false),(3,.int .i64 n),(4,.int .u8 4),(5,.pointer (some ⟨(p1 0).N,0,none⟩)),(6,.pointer (some ⟨(p1 1).N,0,none⟩)),(10,.bool false),(37,.bool false)]) (by kernel_rfl) (fun _ _=>by kernel_rfl) (fun _=>by kernel_rfl) (fun _=>by kernel_rfl) (fun p2=>?_) (fun p2 W2 T hF hK=>?_)
 ·refine ok_L (by kernel_rfl) (by kernel_rfl) (by kernel_rfl) ?_
  refine ok_c (fun W cx=>as_v (unhide HK _)) (by kernel_rfl) ?_
  iterate 3 refine ok_v (by kernel_rfl) ?_
  refine ok_L (by kernel_rfl) (by kernel_rfl) (by kernel_rfl) ?_
  refine ok_v (by kernel_rfl) ?_
  refine ok_L (by kernel_rfl) (by kernel_rfl) (by kernel_rfl) ?_
  refine ok_vb (show (g != g) = false by cases g <;> rfl) (by kernel_rfl) ?_
  iterate 3 refine ok_v (by kernel_rfl) ?_
  refine ok_L (by kernel_rfl) (by kernel_rfl) (by kernel_rfl) ?_
  refine ok_vb (hq) (by kernel_rfl) ?_
  iterate 2 refine ok_v (by kernel_rfl) ?_
  refine ok_L (by kernel_rfl) (by kernel_rfl) (by kernel_rfl) ?_
  refine ok_v (by kernel_rfl) ?_
  refine ok_vb (decide_eq_false (show ¬ x2 < n by omega)) (by kernel_rfl) ?_
  iterate 2 refine ok_v (by kernel_rfl) ?_
  exact ok_nil
 replace hS:=SymF.fb hS hF [0,1] [⟨(p1 0).N,#[.bool g,.string s,.int .i64 x],23,true⟩,⟨(p1 1).N,#[.bool g,.string s2,.int .i64 x2],23,true⟩] (by kernel_rfl) (by kernel_rfl)
 replace hG:=hF.gx
 clear hF
 have z2:=hS.fr.size
 refine wp_cond_false (hK.ev 37 (by kernel_rfl) _ (by kernel_rfl)) ?_
 refine wp_skip ?_
 refine then_n ?_
 refine wp_seq ?_
 refine wp_symQ hS hG hK (fun p3=>[.v 38 (.bool false)]) (fun p3=>[(3,.int .i64 n),(4,.int .u8 4),(5,.pointer (some ⟨(p1 0).N,0,none⟩)),(6,.pointer (some ⟨(p1 1).N,0,none⟩)),(10,.bool false),(37,.bool false),(38,.bool false)]) (by kernel_rfl) (fun _ _=>by kernel_rfl) (fun _=>by kernel_rfl) (fun _=>by kernel_rfl) (fun p3=>?_) (fun p3 W3 T hF hK=>?_)
 ·refine ok_v (by kernel_rfl) ?_
  exact ok_nil
 replace hS:=SymF.fb hS hF [0,1] [⟨(p1 0).N,#[.bool g,.string s,.int .i64 x],23,true⟩,⟨(p1 1).N,#[.bool g,.string s2,.int .i64 x2],23,true⟩] (by kernel_rfl) (by kernel_rfl)
 replace hG:=hF.gx
 clear hF
 have z3:=hS.fr.size
 refine wp_cond_false (hK.ev 38 (by kernel_rfl) _ (by kernel_rfl)) ?_
 refine wp_skip ?_
 refine then_n ?_
 refine wp_symQ hS hG hK (fun p4=>[.l 43 (.agg #[.bool g,.string s2,.int .i64 x2]) 1 0,.l 44 (.agg #[.bool g,.string s,.int .i64 x]) 0 0,.c (some 45) (cV (.tuple #[.int .i64 (-1),.int .i64 0])),.v 42 (.tuple #[.int .i64 (-1),.int .i64 0]),.v 46 (.int .i64 (-1)),.v 47 (.int .i64 0),.v 11 (.int .i64 (-1)),.v 12 (.int .i64 0)]) (fun p4=>[(3,.int .i64 n),(4,.int .u8 4),(5,.pointer (some ⟨(p1 0).N,0,none⟩)),(6,.pointer (some ⟨(p1 1).N,0,none⟩)),(10,.bool false),(11,.int .i64 (-1)),(12,.int .i64 0),(37,.bool false),(38,.bool false)]) (by kernel_rfl) (fun _ _=>by kernel_rfl) (fun _=>by kernel_rfl) (fun _=>by kernel_rfl) (fun p4=>?_) (fun p4 W4 T hF hK=>?_)
 ·iterate 2 refine ok_L (by kernel_rfl) (by kernel_rfl) (by kernel_rfl) ?_
  refine ok_c (fun W cx=>as_v (unhide HM _)) (by kernel_rfl) ?_
  iterate 5 refine ok_v (by kernel_rfl) ?_
  exact ok_nil
 replace hS:=SymF.fb hS hF [0,1] [⟨(p1 0).N,#[.bool g,.string s,.int .i64 x],23,true⟩,⟨(p1 1).N,#[.bool g,.string s2,.int .i64 x2],23,true⟩] (by kernel_rfl) (by kernel_rfl)
 replace hG:=hF.gx
 clear hF
 have z4:=hS.fr.size
 refine wp_symQ hS hG hK (fun p5=>[.l 49 (.agg #[.bool g,.string s,.int .i64 x]) 0 0,.l 50 (.agg #[.bool g,.string s2,.int .i64 x2]) 1 0,.v 51 (.int .i64 n),.c (some 52) (cV (.tuple #[.int .i64 (-1),.bool true])),.v 48 (.tuple #[.int .i64 (-1),.bool true]),.v 53 (.int .i64 (-1)),.v 54 (.bool true),.v 13 (.int .i64 (-1)),.v 14 (.bool true)]) (fun p5=>[(3,.int .i64 n),(4,.int .u8 4),(5,.pointer (some ⟨(p1 0).N,0,none⟩)),(6,.pointer (some ⟨(p1 1).N,0,none⟩)),(10,.bool false),(11,.int .i64 (-1)),(12,.int .i64 0),(13,.int .i64 (-1)),(14,.bool true),(37,.bool false),(38,.bool false)]) (by kernel_rfl) (fun _ _=>by kernel_rfl) (fun _=>by kernel_rfl) (fun _=>by kernel_rfl) (fun p5=>?_) (fun p5 W5 T hF hK=>?_)
 ·iterate 2 refine ok_L (by kernel_rfl) (by kernel_rfl) (by kernel_rfl) ?_
  refine ok_v (by kernel_rfl) ?_
  refine ok_c (fun W cx=>as_v (unhide HU _)) (by kernel_rfl) ?_
  iterate 5 refine ok_v (by kernel_rfl) ?_
  exact ok_nil
 replace hS:=SymF.fb hS hF [0,1] [⟨(p1 0).N,#[.bool g,.string s,.int .i64 x],23,true⟩,⟨(p1 1).N,#[.bool g,.string s2,.int .i64 x2],23,true⟩] (by kernel_rfl) (by kernel_rfl)
 replace hG:=hF.gx
 clear hF
 have z5:=hS.fr.size
 refine wp_symQ hS hG hK (fun p6=>[.l 56 (.agg #[.bool g,.string s,.int .i64 x]) 0 0,.l 57 (.agg #[.bool g,.string s2,.int .i64 x2]) 1 0,.v 58 (.int .i64 n),.v 59 (.int .i64 k),.c (some 60) (cV (.tuple #[.int .i64 hf,.bool true])),.v 55 (.tuple #[.int .i64 hf,.bool true]),.v 61 (.int .i64 hf),.v 62 (.bool true),.v 15 (.int .i64 hf),.v 16 (.bool true)]) (fun p6=>[(4,.int .u8 4),(5,.pointer (some ⟨(p1 0).N,0,none⟩)),(6,.pointer (some ⟨(p1 1).N,0,none⟩)),(10,.bool false),(11,.int .i64 (-1)),(12,.int .i64 0),(13,.int .i64 (-1)),(14,.bool true),(15,.int .i64 hf),(16,.bool true),(37,.bool false),(38,.bool false)]) (by kernel_rfl) (fun _ _=>by kernel_rfl) (fun _=>by kernel_rfl) (fun _=>by kernel_rfl) (fun p6=>?_) (fun p6 W6 T hF hK=>?_)
 ·iterate 2 refine ok_L (by kernel_rfl) (by kernel_rfl) (by kernel_rfl) ?_
  refine ok_v (by kernel_rfl) ?_
  refine ok_vi ((wr64 (x:=n - 1) (by omega) (by omega)).trans hk) (by kernel_rfl) ?_
  refine ok_c (fun W cx=>as_v (unhide HV _)) (by kernel_rfl) ?_
  iterate 5 refine ok_v (by kernel_rfl) ?_
  exact ok_nil
 replace hS:=SymF.fb hS hF [0,1] [⟨(p1 0).N,#[.bool g,.string s,.int .i64 x],23,true⟩,⟨(p1 1).N,#[.bool g,.string s2,.int .i64 x2],23,true⟩] (by kernel_rfl) (by kernel_rfl)
 replace hG:=hF.gx
 clear hF
 have z6:=hS.fr.size
 refine wp_seq ?_
 refine wp_symQ hS hG hK (fun p7=>[.v 63 (.int .i64 0),.v 64 (.bool false),.v 65 (.bool false),.v 66 (.bool true),.v 67 (.bool false),.v 68 (.bool false),.v 69 (.bool false),.v 70 (.bool true),.v 71 (.bool false),.v 72 (.bool false),.v 73 (.bool false),.v 74 (.int .i64 (-1)),.v 75 (.bool false),.v 76 (.bool false),.v 77 (.bool false),.v 78 (.int .i64 (-1)),.v 79 (.bool false),.v 80 (.bool false)]) (fun p7=>[(4,.int .u8 4),(5,.pointer (some ⟨(p1 0).N,0,none⟩)),(6,.pointer (some ⟨(p1 1).N,0,none⟩)),(10,.bool false),(11,.int .i64 (-1)),(13,.int .i64 (-1)),(15,.int .i64 hf),(37,.bool false),(38,.bool false),(80,.bool false)]) (by kernel_rfl) (fun _ _=>by kernel_rfl) (fun _=>by kernel_rfl) (fun _=>by kernel_rfl) (fun p7=>?_) (fun p7 W7 T hF hK=>?_)
 ·iterate 18 refine ok_v (by kernel_rfl) ?_
  exact ok_nil
 replace hS:=SymF.fb hS hF [0,1] [⟨(p1 0).N,#[.bool g,.string s,.int .i64 x],23,true⟩,⟨(p1 1).N,#[.bool g,.string s2,.int .i64 x2],23,true⟩] (by kernel_rfl) (by kernel_rfl)
 replace hG:=hF.gx
 clear hF
 have z7:=hS.fr.size
 refine wp_cond_false (hK.ev 80 (by kernel_rfl) _ (by kernel_rfl)) ?_
 refine wp_skip ?_
 refine then_n ?_
 refine wp_seq ?_
 refine wp_symQ hS hG hK (fun p8=>[.v 81 (.int .u8 4)]) (fun p8=>[(5,.pointer (some ⟨(p1 0).N,0,none⟩)),(6,.pointer (some ⟨(p1 1).N,0,none⟩)),(10,.bool false),(11,.int .i64 (-1)),(13,.int .i64 (-1)),(15,.int .i64 hf),(37,.bool false),(38,.bool false),(80,.bool false),(81,.int .u8 4)]) (by kernel_rfl) (fun _ _=>by kernel_rfl) (fun _=>by kernel_rfl) (fun _=>by kernel_rfl) (fun p8=>?_) (fun p8 W8 T hF hK=>?_)
 ·refine ok_v (by kernel_rfl) ?_
  exact ok_nil
 replace hS:=SymF.fb hS hF [0,1] [⟨(p1 0).N,#[.bool g,.string s,.int .i64 x],23,true⟩,⟨(p1 1).N,#[.bool g,.string s2,.int .i64 x2],23,true⟩] (by kernel_rfl) (by kernel_rfl)
 replace hG:=hF.gx
 clear hF
 have z8:=hS.fr.size
 refine wp_block ?_
 refine wp_symQ hS hG hK (fun p9=>[.v 83 (.bool false),.v 82 (.bool false)]) (fun p9=>[(5,.pointer (some ⟨(p1 0).N,0,none⟩)),(6,.pointer (some ⟨(p1 1).N,0,none⟩)),(10,.bool false),(11,.int .i64 (-1)),(13,.int .i64 (-1)),(15,.int .i64 hf),(37,.bool false),(38,.bool false),(80,.bool false),(81,.int .u8 4),(82,.bool false)]) (by kernel_rfl) (fun _ _=>by kernel_rfl) (fun _=>by kernel_rfl) (fun _=>by kernel_rfl) (fun p9=>?_) (fun p9 W9 T hF hK=>?_)
 ·iterate 2 refine ok_v (by kernel_rfl) ?_
  exact ok_nil
 replace hS:=SymF.fb hS hF [0,1] [⟨(p1 0).N,#[.bool g,.string s,.int .i64 x],23,true⟩,⟨(p1 1).N,#[.bool g,.string s2,.int .i64 x2],23,true⟩] (by kernel_rfl) (by kernel_rfl)
 replace hG:=hF.gx
 clear hF
 have z9:=hS.fr.size
 refine wp_cond_false (hK.ev 82 (by kernel_rfl) _ (by kernel_rfl)) ?_
 refine wp_symQ hS hG hK (fun p10=>[.v 91 (.bool true),.v 90 (.bool true)]) (fun p10=>[(5,.pointer (some ⟨(p1 0).N,0,none⟩)),(6,.pointer (some ⟨(p1 1).N,0,none⟩)),(10,.bool false),(11,.int .i64 (-1)),(13,.int .i64 (-1)),(15,.int .i64 hf),(37,.bool false),(38,.bool false),(80,.bool false),(81,.int .u8 4),(82,.bool false),(90,.bool true)]) (by kernel_rfl) (fun _ _=>by kernel_rfl) (fun _=>by kernel_rfl) (fun _=>by kernel_rfl) (fun p10=>?_) (fun p10 W10 T hF hK=>?_)
 ·iterate 2 refine ok_v (by kernel_rfl) ?_
  exact ok_nil
 replace hS:=SymF.fb hS hF [0,1] [⟨(p1 0).N,#[.bool g,.string s,.int .i64 x],23,true⟩,⟨(p1 1).N,#[.bool g,.string s2,.int .i64 x2],23,true⟩] (by kernel_rfl) (by kernel_rfl)
 replace hG:=hF.gx
 clear hF
 have z10:=hS.fr.size
 refine wp_cond_true (hK.ev 90 (by kernel_rfl) _ (by kernel_rfl)) ?_
 refine wp_symQ hS hG hK (fun p11=>[.v 92 (.int .i64 (-1)),.v 93 (.bool true),.v 94 (.bool true),.v 95 (.int .i64 (-1)),.v 96 (.bool true),.v 97 (.bool true),.v 10 (.bool true)]) (fun p11=>[(5,.pointer (some ⟨(p1 0).N,0,none⟩)),(6,.pointer (some ⟨(p1 1).N,0,none⟩)),(10,.bool true),(11,.int .i64 (-1)),(13,.int .i64 (-1)),(15,.int .i64 hf),(37,.bool false),(38,.bool false),(80,.bool false),(81,.int .u8 4),(82,.bool false),(90,.bool true)]) (by kernel_rfl) (fun _ _=>by kernel_rfl) (fun _=>by kernel_rfl) (fun _=>by kernel_rfl) (fun p11=>?_) (fun p11 W11 T hF hK=>?_)
 ·iterate 7 refine ok_v (by kernel_rfl) ?_
  exact ok_nil
 replace hS:=SymF.fb hS hF [0,1] [⟨(p1 0).N,#[.bool g,.string s,.int .i64 x],23,true⟩,⟨(p1 1).N,#[.bool g,.string s2,.int .i64 x2],23,true⟩] (by kernel_rfl) (by kernel_rfl)
 replace hG:=hF.gx
 clear hF
 have z11:=hS.fr.size
 refine wp_ret ?_
 refine inb_r ?_
 refine then_r ?_
 exact sym_end hS hK (.bool true) [] [] (by kernel_rfl) (by kernel_rfl) ⟨rfl,hS.fr⟩
theorem near_2tz (w:World) (s:ByteArray) (x:Int) (s2:ByteArray) (x2:Int) (n k hf:Int) (hk:n - 1 = k) (hn0:-1000000≤n) (hn1:n≤1000000) (hq:(s2.toList != (⟨#[]⟩:ByteArray).toList) = false) (HK:Hid (∀ W:World,Calls Tryz.prog 25 #[.agg #[.bool true,.string s2,.int .i64 x2]] W fun e W'=>e = .returned (.int .i64 0)∧Below W.heap.size W W')) (HM:Hid (∀ W:World,Calls Tryz.prog 11 #[.agg #[.bool true,.string s2,.int .i64 x2],.agg #[.bool true,.string s,.int .i64 x]] W fun e W'=>e = .returned (.tuple #[.int .i64 1,.int .i64 0])∧Below W.heap.size W W')) (HU:Hid (∀ W:World,Calls Tryz.prog 57 #[.agg #[.bool true,.string s,.int .i64 x],.agg #[.bool true,.string s2,.int .i64 x2],.string ⟨#[49]⟩,.int .i64 n] W fun e W'=>e = .returned (.tuple #[.int .i64 (-1),.bool true])∧Below W.heap.size W W')) (HV:Hid (∀ W:World,Calls Tryz.prog 57 #[.agg #[.bool true,.string s,.int .i64 x],.agg #[.bool true,.string s2,.int .i64 x2],.string ⟨#[53]⟩,.int .i64 k] W fun e W'=>e = .returned (.tuple #[.int .i64 hf,.bool true])∧Below W.heap.size W W')) :
  Calls Tryz.prog 19 #[.agg #[.bool true,.string s,.int .i64 x],.agg #[.bool true,.string s2,.int .i64 x2],.bool false,.int .i64 n,.int .u8 2] w fun en w'=>en = .returned (.bool true)∧Below w.heap.size w w':=by
 refine calls_sym Tryz.func19 rfl (by kernel_rfl) fun T hK=>?_
 replace hK:Kn T _ [(0,.agg #[.bool true,.string s,.int .i64 x]),(1,.agg #[.bool true,.string s2,.int .i64 x2]),(2,.bool false),(3,.int .i64 n),(4,.int .u8 2)]:=hK
 have hS:=Fb.begin w
 have hG:GsAt [] w:=trivial
 refine wp_symQ hS hG hK (fun p1=>[.n 5 #[.bool true,.string s,.int .i64 x] 23,.n 6 #[.bool true,.string s2,.int .i64 x2] 23,.v 10 (.bool false)]) (fun p1=>[(2,.bool false),(3,.int .i64 n),(4,.int .u8 2),(5,.pointer (some ⟨(p1 0).N,0,none⟩)),(6,.pointer (some ⟨(p1 1).N,0,none⟩)),(10,.bool false)]) (by kernel_rfl) (fun _ _=>by kernel_rfl) (fun _=>by kernel_rfl) (fun _=>by kernel_rfl) (fun p1=>?_) (fun p1 W1 T hF hK=>?_)
 ·iterate 2 refine ok_n (fun _=>by kernel_rfl) ?_
  refine ok_v (by kernel_rfl) ?_
  exact ok_nil
 replace hS:=SymF.fb hS hF [1000,1001] [⟨(p1 0).N,#[.bool true,.string s,.int .i64 x],23,true⟩,⟨(p1 1).N,#[.bool true,.string s2,.int .i64 x2],23,true⟩] (by kernel_rfl) (by kernel_rfl)
 replace hG:=hF.gx
 clear hF
 have z1:=hS.fr.size
 refine wp_seq ?_
 refine wp_symQ hS hG hK (fun p2=>[.l 17 (.agg #[.bool true,.string s2,.int .i64 x2]) 1 0,.c (some 18) (cV (.int .i64 0)),.v 19 (.bool false),.v 20 (.bool false),.v 21 (.pointer (some ⟨(p1 1).N,0,none⟩)),.l 22 (.bool true) 1 0,.v 23 (.pointer (some ⟨(p1 0).N,0,none⟩)),.l 24 (.bool true) 0 0,.v 25 (.bool false),.v 26 (.bool false),.v 27 (.bool false),.v 28 (.pointer (some ⟨(p1 1).N,1,none⟩)),.l 29 (.string s2) 1 1,.v 30 (.bool false),.v 31 (.bool false),.k (some 32),.k (some 33),.k (some 34),.k (some 35),.v 36 (.bool false),.v 37 (.bool false)]) (fun p2=>[(2,.bool false),(3,.int .i64 n),(4,.int .u8 2),(5,.pointer (some ⟨(p1 0).N,0,none⟩)),(6,.pointer (some ⟨(p1 1).N,0,none⟩)),(10,.bool false),(37,.bool false)]) (by kernel_rfl) (fun _ _=>by kernel_rfl) (fun _=>by kernel_rfl) (fun _=>by kernel_rfl) (fun p2=>?_) (fun p2 W2 T hF hK=>?_)
 ·refine ok_L (by kernel_rfl) (by kernel_rfl) (by kernel_rfl) ?_
  refine ok_c (fun W cx=>as_v (unhide HK _)) (by kernel_rfl) ?_
  iterate 3 refine ok_v (by kernel_rfl) ?_
  refine ok_L (by kernel_rfl) (by kernel_rfl) (by kernel_rfl) ?_
  refine ok_v (by kernel_rfl) ?_
  refine ok_L (by kernel_rfl) (by kernel_rfl) (by kernel_rfl) ?_
  refine ok_vb (rfl) (by kernel_rfl) ?_
  iterate 3 refine ok_v (by kernel_rfl) ?_
  refine ok_L (by kernel_rfl) (by kernel_rfl) (by kernel_rfl) ?_
  refine ok_vb (hq) (by kernel_rfl) ?_
  refine ok_v (by kernel_rfl) ?_
  iterate 4 refine ok_K (by kernel_rfl) ?_
  iterate 2 refine ok_v (by kernel_rfl) ?_
  exact ok_nil
 replace hS:=SymF.fb hS hF [0,1] [⟨(p1 0).N,#[.bool true,.string s,.int .i64 x],23,true⟩,⟨(p1 1).N,#[.bool true,.string s2,.int .i64 x2],23,true⟩] (by kernel_rfl) (by kernel_rfl)
 replace hG:=hF.gx
 clear hF
 have z2:=hS.fr.size
 refine wp_cond_false (hK.ev 37 (by kernel_rfl) _ (by kernel_rfl)) ?_
 refine wp_skip ?_
 refine then_n ?_
 refine wp_seq ?_
 refine wp_symQ hS hG hK (fun p3=>[.v 38 (.bool false)]) (fun p3=>[(3,.int .i64 n),(4,.int .u8 2),(5,.pointer (some ⟨(p1 0).N,0,none⟩)),(6,.pointer (some ⟨(p1 1).N,0,none⟩)),(10,.bool false),(37,.bool false),(38,.bool false)]) (by kernel_rfl) (fun _ _=>by kernel_rfl) (fun _=>by kernel_rfl) (fun _=>by kernel_rfl) (fun p3=>?_) (fun p3 W3 T hF hK=>?_)
 ·refine ok_v (by kernel_rfl) ?_
  exact ok_nil
 replace hS:=SymF.fb hS hF [0,1] [⟨(p1 0).N,#[.bool true,.string s,.int .i64 x],23,true⟩,⟨(p1 1).N,#[.bool true,.string s2,.int .i64 x2],23,true⟩] (by kernel_rfl) (by kernel_rfl)
 replace hG:=hF.gx
 clear hF
 have z3:=hS.fr.size
 refine wp_cond_false (hK.ev 38 (by kernel_rfl) _ (by kernel_rfl)) ?_
 refine wp_skip ?_
 refine then_n ?_
 refine wp_symQ hS hG hK (fun p4=>[.l 43 (.agg #[.bool true,.string s2,.int .i64 x2]) 1 0,.l 44 (.agg #[.bool true,.string s,.int .i64 x]) 0 0,.c (some 45) (cV (.tuple #[.int .i64 1,.int .i64 0])),.v 42 (.tuple #[.int .i64 1,.int .i64 0]),.v 46 (.int .i64 1),.v 47 (.int .i64 0),.v 11 (.int .i64 1),.v 12 (.int .i64 0)]) (fun p4=>[(3,.int .i64 n),(4,.int .u8 2),(5,.pointer (some ⟨(p1 0).N,0,none⟩)),(6,.pointer (some ⟨(p1 1).N,0,none⟩)),(10,.bool false),(11,.int .i64 1),(12,.int .i64 0),(37,.bool false),(38,.bool false)]) (by kernel_rfl) (fun _ _=>by kernel_rfl) (fun _=>by kernel_rfl) (fun _=>by kernel_rfl) (fun p4=>?_) (fun p4 W4 T hF hK=>?_)
 ·iterate 2 refine ok_L (by kernel_rfl) (by kernel_rfl) (by kernel_rfl) ?_
  refine ok_c (fun W cx=>as_v (unhide HM _)) (by kernel_rfl) ?_
  iterate 5 refine ok_v (by kernel_rfl) ?_
  exact ok_nil
 replace hS:=SymF.fb hS hF [0,1] [⟨(p1 0).N,#[.bool true,.string s,.int .i64 x],23,true⟩,⟨(p1 1).N,#[.bool true,.string s2,.int .i64 x2],23,true⟩] (by kernel_rfl) (by kernel_rfl)
 replace hG:=hF.gx
 clear hF
 have z4:=hS.fr.size
 refine wp_symQ hS hG hK (fun p5=>[.l 49 (.agg #[.bool true,.string s,.int .i64 x]) 0 0,.l 50 (.agg #[.bool true,.string s2,.int .i64 x2]) 1 0,.v 51 (.int .i64 n),.c (some 52) (cV (.tuple #[.int .i64 (-1),.bool true])),.v 48 (.tuple #[.int .i64 (-1),.bool true]),.v 53 (.int .i64 (-1)),.v 54 (.bool true),.v 13 (.int .i64 (-1)),.v 14 (.bool true)]) (fun p5=>[(3,.int .i64 n),(4,.int .u8 2),(5,.pointer (some ⟨(p1 0).N,0,none⟩)),(6,.pointer (some ⟨(p1 1).N,0,none⟩)),(10,.bool false),(11,.int .i64 1),(12,.int .i64 0),(13,.int .i64 (-1)),(14,.bool true),(37,.bool false),(38,.bool false)]) (by kernel_rfl) (fun _ _=>by kernel_rfl) (fun _=>by kernel_rfl) (fun _=>by kernel_rfl) (fun p5=>?_) (fun p5 W5 T hF hK=>?_)
 ·iterate 2 refine ok_L (by kernel_rfl) (by kernel_rfl) (by kernel_rfl) ?_
  refine ok_v (by kernel_rfl) ?_
  refine ok_c (fun W cx=>as_v (unhide HU _)) (by kernel_rfl) ?_
  iterate 5 refine ok_v (by kernel_rfl) ?_
  exact ok_nil
 replace hS:=SymF.fb hS hF [0,1] [⟨(p1 0).N,#[.bool true,.string s,.int .i64 x],23,true⟩,⟨(p1 1).N,#[.bool true,.string s2,.int .i64 x2],23,true⟩] (by kernel_rfl) (by kernel_rfl)
 replace hG:=hF.gx
 clear hF
 have z5:=hS.fr.size
 refine wp_symQ hS hG hK (fun p6=>[.l 56 (.agg #[.bool true,.string s,.int .i64 x]) 0 0,.l 57 (.agg #[.bool true,.string s2,.int .i64 x2]) 1 0,.v 58 (.int .i64 n),.v 59 (.int .i64 k),.c (some 60) (cV (.tuple #[.int .i64 hf,.bool true])),.v 55 (.tuple #[.int .i64 hf,.bool true]),.v 61 (.int .i64 hf),.v 62 (.bool true),.v 15 (.int .i64 hf),.v 16 (.bool true)]) (fun p6=>[(4,.int .u8 2),(5,.pointer (some ⟨(p1 0).N,0,none⟩)),(6,.pointer (some ⟨(p1 1).N,0,none⟩)),(10,.bool false),(11,.int .i64 1),(12,.int .i64 0),(13,.int .i64 (-1)),(14,.bool true),(15,.int .i64 hf),(16,.bool true),(37,.bool false),(38,.bool false)]) (by kernel_rfl) (fun _ _=>by kernel_rfl) (fun _=>by kernel_rfl) (fun _=>by kernel_rfl) (fun p6=>?_) (fun p6 W6 T hF hK=>?_)
 ·iterate 2 refine ok_L (by kernel_rfl) (by kernel_rfl) (by kernel_rfl) ?_
  refine ok_v (by kernel_rfl) ?_
  refine ok_vi ((wr64 (x:=n - 1) (by omega) (by omega)).trans hk) (by kernel_rfl) ?_
  refine ok_c (fun W cx=>as_v (unhide HV _)) (by kernel_rfl) ?_
  iterate 5 refine ok_v (by kernel_rfl) ?_
  exact ok_nil
 replace hS:=SymF.fb hS hF [0,1] [⟨(p1 0).N,#[.bool true,.string s,.int .i64 x],23,true⟩,⟨(p1 1).N,#[.bool true,.string s2,.int .i64 x2],23,true⟩] (by kernel_rfl) (by kernel_rfl)
 replace hG:=hF.gx
 clear hF
 have z6:=hS.fr.size
 refine wp_seq ?_
 refine wp_symQ hS hG hK (fun p7=>[.v 63 (.int .i64 0),.v 64 (.bool false),.v 65 (.bool false),.v 66 (.bool true),.v 67 (.bool false),.v 68 (.bool false),.v 69 (.bool false),.v 70 (.bool true),.v 71 (.bool false),.v 72 (.bool false),.v 73 (.bool false),.v 74 (.int .i64 1),.v 75 (.bool false),.v 76 (.bool false),.v 77 (.bool false),.v 78 (.int .i64 (-1)),.v 79 (.bool false),.v 80 (.bool false)]) (fun p7=>[(4,.int .u8 2),(5,.pointer (some ⟨(p1 0).N,0,none⟩)),(6,.pointer (some ⟨(p1 1).N,0,none⟩)),(10,.bool false),(11,.int .i64 1),(13,.int .i64 (-1)),(15,.int .i64 hf),(37,.bool false),(38,.bool false),(80,.bool false)]) (by kernel_rfl) (fun _ _=>by kernel_rfl) (fun _=>by kernel_rfl) (fun _=>by kernel_rfl) (fun p7=>?_) (fun p7 W7 T hF hK=>?_)
 ·iterate 18 refine ok_v (by kernel_rfl) ?_
  exact ok_nil
 replace hS:=SymF.fb hS hF [0,1] [⟨(p1 0).N,#[.bool true,.string s,.int .i64 x],23,true⟩,⟨(p1 1).N,#[.bool true,.string s2,.int .i64 x2],23,true⟩] (by kernel_rfl) (by kernel_rfl)
 replace hG:=hF.gx
 clear hF
 have z7:=hS.fr.size
 refine wp_cond_false (hK.ev 80 (by kernel_rfl) _ (by kernel_rfl)) ?_
 refine wp_skip ?_
 refine then_n ?_
 refine wp_seq ?_
 refine wp_symQ hS hG hK (fun p8=>[.v 81 (.int .u8 2)]) (fun p8=>[(5,.pointer (some ⟨(p1 0).N,0,none⟩)),(6,.pointer (some ⟨(p1 1).N,0,none⟩)),(10,.bool false),(11,.int .i64 1),(13,.int .i64 (-1)),(15,.int .i64 hf),(37,.bool false),(38,.bool false),(80,.bool false),(81,.int .u8 2)]) (by kernel_rfl) (fun _ _=>by kernel_rfl) (fun _=>by kernel_rfl) (fun _=>by kernel_rfl) (fun p8=>?_) (fun p8 W8 T hF hK=>?_)
 ·refine ok_v (by kernel_rfl) ?_
  exact ok_nil
 replace hS:=SymF.fb hS hF [0,1] [⟨(p1 0).N,#[.bool true,.string s,.int .i64 x],23,true⟩,⟨(p1 1).N,#[.bool true,.string s2,.int .i64 x2],23,true⟩] (by kernel_rfl) (by kernel_rfl)
 replace hG:=hF.gx
 clear hF
 have z8:=hS.fr.size
 refine wp_block ?_
 refine wp_symQ hS hG hK (fun p9=>[.v 83 (.bool false),.v 82 (.bool false)]) (fun p9=>[(5,.pointer (some ⟨(p1 0).N,0,none⟩)),(6,.pointer (some ⟨(p1 1).N,0,none⟩)),(10,.bool false),(11,.int .i64 1),(13,.int .i64 (-1)),(15,.int .i64 hf),(37,.bool false),(38,.bool false),(80,.bool false),(81,.int .u8 2),(82,.bool false)]) (by kernel_rfl) (fun _ _=>by kernel_rfl) (fun _=>by kernel_rfl) (fun _=>by kernel_rfl) (fun p9=>?_) (fun p9 W9 T hF hK=>?_)
 ·iterate 2 refine ok_v (by kernel_rfl) ?_
  exact ok_nil
 replace hS:=SymF.fb hS hF [0,1] [⟨(p1 0).N,#[.bool true,.string s,.int .i64 x],23,true⟩,⟨(p1 1).N,#[.bool true,.string s2,.int .i64 x2],23,true⟩] (by kernel_rfl) (by kernel_rfl)
 replace hG:=hF.gx
 clear hF
 have z9:=hS.fr.size
 refine wp_cond_false (hK.ev 82 (by kernel_rfl) _ (by kernel_rfl)) ?_
 refine wp_symQ hS hG hK (fun p10=>[.v 91 (.bool false),.v 90 (.bool false)]) (fun p10=>[(5,.pointer (some ⟨(p1 0).N,0,none⟩)),(6,.pointer (some ⟨(p1 1).N,0,none⟩)),(10,.bool false),(11,.int .i64 1),(13,.int .i64 (-1)),(15,.int .i64 hf),(37,.bool false),(38,.bool false),(80,.bool false),(81,.int .u8 2),(82,.bool false),(90,.bool false)]) (by kernel_rfl) (fun _ _=>by kernel_rfl) (fun _=>by kernel_rfl) (fun _=>by kernel_rfl) (fun p10=>?_) (fun p10 W10 T hF hK=>?_)
 ·iterate 2 refine ok_v (by kernel_rfl) ?_
  exact ok_nil
 replace hS:=SymF.fb hS hF [0,1] [⟨(p1 0).N,#[.bool true,.string s,.int .i64 x],23,true⟩,⟨(p1 1).N,#[.bool true,.string s2,.int .i64 x2],23,true⟩] (by kernel_rfl) (by kernel_rfl)
 replace hG:=hF.gx
 clear hF
 have z10:=hS.fr.size
 refine wp_cond_false (hK.ev 90 (by kernel_rfl) _ (by kernel_rfl)) ?_
 refine wp_symQ hS hG hK (fun p11=>[.v 99 (.bool true),.v 98 (.bool true)]) (fun p11=>[(5,.pointer (some ⟨(p1 0).N,0,none⟩)),(6,.pointer (some ⟨(p1 1).N,0,none⟩)),(10,.bool false),(11,.int .i64 1),(13,.int .i64 (-1)),(15,.int .i64 hf),(37,.bool false),(38,.bool false),(80,.bool false),(82,.bool false),(90,.bool false),(98,.bool true)]) (by kernel_rfl) (fun _ _=>by kernel_rfl) (fun _=>by kernel_rfl) (fun _=>by kernel_rfl) (fun p11=>?_) (fun p11 W11 T hF hK=>?_)
 ·iterate 2 refine ok_v (by kernel_rfl) ?_
  exact ok_nil
 replace hS:=SymF.fb hS hF [0,1] [⟨(p1 0).N,#[.bool true,.string s,.int .i64 x],23,true⟩,⟨(p1 1).N,#[.bool true,.string s2,.int .i64 x2],23,true⟩] (by kernel_rfl) (by kernel_rfl)
 replace hG:=hF.gx
 clear hF
 have z11:=hS.fr.size
 refine wp_cond_true (hK.ev 98 (by kernel_rfl) _ (by kernel_rfl)) ?_
 refine wp_symQ hS hG hK (fun p12=>[.v 100 (.int .i64 1),.v 101 (.bool false),.v 102 (.pointer (some ⟨(p1 0).N,0,none⟩)),.l 103 (.bool true) 0 0,.v 104 (.bool true),.v 105 (.bool true),.v 106 (.int .i64 (-1)),.v 107 (.bool true),.v 108 (.bool true),.v 10 (.bool true)]) (fun p12=>[(5,.pointer (some ⟨(p1 0).N,0,none⟩)),(6,.pointer (some ⟨(p1 1).N,0,none⟩)),(10,.bool true),(11,.int .i64 1),(13,.int .i64 (-1)),(15,.int .i64 hf),(37,.bool false),(38,.bool false),(80,.bool false),(82,.bool false),(90,.bool false),(98,.bool true)]) (by kernel_rfl) (fun _ _=>by kernel_rfl) (fun _=>by kernel_rfl) (fun _=>by kernel_rfl) (fun p12=>?_) (fun p12 W12 T hF hK=>?_)
 ·iterate 3 refine ok_v (by kernel_rfl) ?_
  refine ok_L (by kernel_rfl) (by kernel_rfl) (by kernel_rfl) ?_
  refine ok_vb (rfl) (by kernel_rfl) ?_
  iterate 5 refine ok_v (by kernel_rfl) ?_
  exact ok_nil
 replace hS:=SymF.fb hS hF [0,1] [⟨(p1 0).N,#[.bool true,.string s,.int .i64 x],23,true⟩,⟨(p1 1).N,#[.bool true,.string s2,.int .i64 x2],23,true⟩] (by kernel_rfl) (by kernel_rfl)
 replace hG:=hF.gx
 clear hF
 have z12:=hS.fr.size
 refine wp_ret ?_
 refine inb_r ?_
 refine then_r ?_
 exact sym_end hS hK (.bool true) [] [] (by kernel_rfl) (by kernel_rfl) ⟨rfl,hS.fr⟩
theorem near_2tn (w:World) (s:ByteArray) (x:Int) (s2:ByteArray) (x2:Int) (n k hf:Int) (hk:n - 1 = k) (hn0:-1000000≤n) (hn1:n≤1000000) (hq:(s2.toList != (⟨#[]⟩:ByteArray).toList) = true) (hx:n≤x2) (HK:Hid (∀ W:World,Calls Tryz.prog 25 #[.agg #[.bool true,.string s2,.int .i64 x2]] W fun e W'=>e = .returned (.int .i64 0)∧Below W.heap.size W W')) (HM:Hid (∀ W:World,Calls Tryz.prog 11 #[.agg #[.bool true,.string s2,.int .i64 x2],.agg #[.bool true,.string s,.int .i64 x]] W fun e W'=>e = .returned (.tuple #[.int .i64 1,.int .i64 0])∧Below W.heap.size W W')) (HU:Hid (∀ W:World,Calls Tryz.prog 57 #[.agg #[.bool true,.string s,.int .i64 x],.agg #[.bool true,.string s2,.int .i64 x2],.string ⟨#[49]⟩,.int .i64 n] W fun e W'=>e = .returned (.tuple #[.int .i64 (-1),.bool true])∧Below W.heap.size W W')) (HV:Hid (∀ W:World,Calls Tryz.prog 57 #[.agg #[.bool true,.string s,.int .i64 x],.agg #[.bool true,.string s2,.int .i64 x2],.string ⟨#[53]⟩,.int .i64 k] W fun e W'=>e = .returned (.tuple #[.int .i64 hf,.bool true])∧Below W.heap.size W W')) :
  Calls Tryz.prog 19 #[.agg #[.bool true,.string s,.int .i64 x],.agg #[.bool true,.string s2,.int .i64 x2],.bool false,.int .i64 n,.int .u8 2] w fun en w'=>en = .returned (.bool true)∧Below w.heap.size w w':=by
 refine calls_sym Tryz.func19 rfl (by kernel_rfl) fun T hK=>?_
 replace hK:Kn T _ [(0,.agg #[.bool true,.string s,.int .i64 x]),(1,.agg #[.bool true,.string s2,.int .i64 x2]),(2,.bool false),(3,.int .i64 n),(4,.int .u8 2)]:=hK
 have hS:=Fb.begin w
 have hG:GsAt [] w:=trivial
 refine wp_symQ hS hG hK (fun p1=>[.n 5 #[.bool true,.string s,.int .i64 x] 23,.n 6 #[.bool true,.string s2,.int .i64 x2] 23,.v 10 (.bool false)]) (fun p1=>[(2,.bool false),(3,.int .i64 n),(4,.int .u8 2),(5,.pointer (some ⟨(p1 0).N,0,none⟩)),(6,.pointer (some ⟨(p1 1).N,0,none⟩)),(10,.bool false)]) (by kernel_rfl) (fun _ _=>by kernel_rfl) (fun _=>by kernel_rfl) (fun _=>by kernel_rfl) (fun p1=>?_) (fun p1 W1 T hF hK=>?_)
 ·iterate 2 refine ok_n (fun _=>by kernel_rfl) ?_
  refine ok_v (by kernel_rfl) ?_
  exact ok_nil
 replace hS:=SymF.fb hS hF [1000,1001] [⟨(p1 0).N,#[.bool true,.string s,.int .i64 x],23,true⟩,⟨(p1 1).N,#[.bool true,.string s2,.int .i64 x2],23,true⟩] (by kernel_rfl) (by kernel_rfl)
 replace hG:=hF.gx
 clear hF
 have z1:=hS.fr.size
 refine wp_seq ?_
 refine wp_symQ hS hG hK (fun p2=>[.l 17 (.agg #[.bool true,.string s2,.int .i64 x2]) 1 0,.c (some 18) (cV (.int .i64 0)),.v 19 (.bool false),.v 20 (.bool false),.v 21 (.pointer (some ⟨(p1 1).N,0,none⟩)),.l 22 (.bool true) 1 0,.v 23 (.pointer (some ⟨(p1 0).N,0,none⟩)),.l 24 (.bool true) 0 0,.v 25 (.bool false),.v 26 (.bool false),.v 27 (.bool false),.v 28 (.pointer (some ⟨(p1 1).N,1,none⟩)),.l 29 (.string s2) 1 1,.v 30 (.bool true),.v 31 (.bool true),.v 32 (.pointer (some ⟨(p1 1).N,2,none⟩)),.l 33 (.int .i64 x2) 1 2,.v 34 (.int .i64 n),.v 35 (.bool false),.v 36 (.bool false),.v 37 (.bool false)]) (fun p2=>[(2,.bool false),(3,.int .i64 n),(4,.int .u8 2),(5,.pointer (some ⟨(p1 0).N,0,none⟩)),(6,.pointer (some ⟨(p1 1).N,0,none⟩)),(10,.bool false),(37,.bool false)]) (by kernel_rfl) (fun _ _=>by kernel_rfl) (fun _=>by kernel_rfl) (fun _=>by kernel_rfl) (fun p2=>?_) (fun p2 W2 T hF hK=>?_)
 ·refine ok_L (by kernel_rfl) (by kernel_rfl) (by kernel_rfl) ?_
  refine ok_c (fun W cx=>as_v (unhide HK _)) (by kernel_rfl) ?_
  iterate 3 refine ok_v (by kernel_rfl) ?_
  refine ok_L (by kernel_rfl) (by kernel_rfl) (by kernel_rfl) ?_
  refine ok_v (by kernel_rfl) ?_
  refine ok_L (by kernel_rfl) (by kernel_rfl) (by kernel_rfl) ?_
  refine ok_vb (rfl) (by kernel_rfl) ?_
  iterate 3 refine ok_v (by kernel_rfl) ?_
  refine ok_L (by kernel_rfl) (by kernel_rfl) (by kernel_rfl) ?_
  refine ok_vb (hq) (by kernel_rfl) ?_
  iterate 2 refine ok_v (by kernel_rfl) ?_
  refine ok_L (by kernel_rfl) (by kernel_rfl) (by kernel_rfl) ?_
  refine ok_v (by kernel_rfl) ?_
  refine ok_vb (decide_eq_false (show ¬ x2 < n by omega)) (by kernel_rfl) ?_
  iterate 2 refine ok_v (by kernel_rfl) ?_
  exact ok_nil
 replace hS:=SymF.fb hS hF [0,1] [⟨(p1 0).N,#[.bool true,.string s,.int .i64 x],23,true⟩,⟨(p1 1).N,#[.bool true,.string s2,.int .i64 x2],23,true⟩] (by kernel_rfl) (by kernel_rfl)
 replace hG:=hF.gx
 clear hF
 have z2:=hS.fr.size
 refine wp_cond_false (hK.ev 37 (by kernel_rfl) _ (by kernel_rfl)) ?_
 refine wp_skip ?_
 refine then_n ?_
 refine wp_seq ?_
 refine wp_symQ hS hG hK (fun p3=>[.v 38 (.bool false)]) (fun p3=>[(3,.int .i64 n),(4,.int .u8 2),(5,.pointer (some ⟨(p1 0).N,0,none⟩)),(6,.pointer (some ⟨(p1 1).N,0,none⟩)),(10,.bool false),(37,.bool false),(38,.bool false)]) (by kernel_rfl) (fun _ _=>by kernel_rfl) (fun _=>by kernel_rfl) (fun _=>by kernel_rfl) (fun p3=>?_) (fun p3 W3 T hF hK=>?_)
 ·refine ok_v (by kernel_rfl) ?_
  exact ok_nil
 replace hS:=SymF.fb hS hF [0,1] [⟨(p1 0).N,#[.bool true,.string s,.int .i64 x],23,true⟩,⟨(p1 1).N,#[.bool true,.string s2,.int .i64 x2],23,true⟩] (by kernel_rfl) (by kernel_rfl)
 replace hG:=hF.gx
 clear hF
 have z3:=hS.fr.size
 refine wp_cond_false (hK.ev 38 (by kernel_rfl) _ (by kernel_rfl)) ?_
 refine wp_skip ?_
 refine then_n ?_
 refine wp_symQ hS hG hK (fun p4=>[.l 43 (.agg #[.bool true,.string s2,.int .i64 x2]) 1 0,.l 44 (.agg #[.bool true,.string s,.int .i64 x]) 0 0,.c (some 45) (cV (.tuple #[.int .i64 1,.int .i64 0])),.v 42 (.tuple #[.int .i64 1,.int .i64 0]),.v 46 (.int .i64 1),.v 47 (.int .i64 0),.v 11 (.int .i64 1),.v 12 (.int .i64 0)]) (fun p4=>[(3,.int .i64 n),(4,.int .u8 2),(5,.pointer (some ⟨(p1 0).N,0,none⟩)),(6,.pointer (some ⟨(p1 1).N,0,none⟩)),(10,.bool false),(11,.int .i64 1),(12,.int .i64 0),(37,.bool false),(38,.bool false)]) (by kernel_rfl) (fun _ _=>by kernel_rfl) (fun _=>by kernel_rfl) (fun _=>by kernel_rfl) (fun p4=>?_) (fun p4 W4 T hF hK=>?_)
 ·iterate 2 refine ok_L (by kernel_rfl) (by kernel_rfl) (by kernel_rfl) ?_
  refine ok_c (fun W cx=>as_v (unhide HM _)) (by kernel_rfl) ?_
  iterate 5 refine ok_v (by kernel_rfl) ?_
  exact ok_nil
 replace hS:=SymF.fb hS hF [0,1] [⟨(p1 0).N,#[.bool true,.string s,.int .i64 x],23,true⟩,⟨(p1 1).N,#[.bool true,.string s2,.int .i64 x2],23,true⟩] (by kernel_rfl) (by kernel_rfl)
 replace hG:=hF.gx
 clear hF
 have z4:=hS.fr.size
 refine wp_symQ hS hG hK (fun p5=>[.l 49 (.agg #[.bool true,.string s,.int .i64 x]) 0 0,.l 50 (.agg #[.bool true,.string s2,.int .i64 x2]) 1 0,.v 51 (.int .i64 n),.c (some 52) (cV (.tuple #[.int .i64 (-1),.bool true])),.v 48 (.tuple #[.int .i64 (-1),.bool true]),.v 53 (.int .i64 (-1)),.v 54 (.bool true),.v 13 (.int .i64 (-1)),.v 14 (.bool true)]) (fun p5=>[(3,.int .i64 n),(4,.int .u8 2),(5,.pointer (some ⟨(p1 0).N,0,none⟩)),(6,.pointer (some ⟨(p1 1).N,0,none⟩)),(10,.bool false),(11,.int .i64 1),(12,.int .i64 0),(13,.int .i64 (-1)),(14,.bool true),(37,.bool false),(38,.bool false)]) (by kernel_rfl) (fun _ _=>by kernel_rfl) (fun _=>by kernel_rfl) (fun _=>by kernel_rfl) (fun p5=>?_) (fun p5 W5 T hF hK=>?_)
 ·iterate 2 refine ok_L (by kernel_rfl) (by kernel_rfl) (by kernel_rfl) ?_
  refine ok_v (by kernel_rfl) ?_
  refine ok_c (fun W cx=>as_v (unhide HU _)) (by kernel_rfl) ?_
  iterate 5 refine ok_v (by kernel_rfl) ?_
  exact ok_nil
 replace hS:=SymF.fb hS hF [0,1] [⟨(p1 0).N,#[.bool true,.string s,.int .i64 x],23,true⟩,⟨(p1 1).N,#[.bool true,.string s2,.int .i64 x2],23,true⟩] (by kernel_rfl) (by kernel_rfl)
 replace hG:=hF.gx
 clear hF
 have z5:=hS.fr.size
 refine wp_symQ hS hG hK (fun p6=>[.l 56 (.agg #[.bool true,.string s,.int .i64 x]) 0 0,.l 57 (.agg #[.bool true,.string s2,.int .i64 x2]) 1 0,.v 58 (.int .i64 n),.v 59 (.int .i64 k),.c (some 60) (cV (.tuple #[.int .i64 hf,.bool true])),.v 55 (.tuple #[.int .i64 hf,.bool true]),.v 61 (.int .i64 hf),.v 62 (.bool true),.v 15 (.int .i64 hf),.v 16 (.bool true)]) (fun p6=>[(4,.int .u8 2),(5,.pointer (some ⟨(p1 0).N,0,none⟩)),(6,.pointer (some ⟨(p1 1).N,0,none⟩)),(10,.bool false),(11,.int .i64 1),(12,.int .i64 0),(13,.int .i64 (-1)),(14,.bool true),(15,.int .i64 hf),(16,.bool true),(37,.bool false),(38,.bool false)]) (by kernel_rfl) (fun _ _=>by kernel_rfl) (fun _=>by kernel_rfl) (fun _=>by kernel_rfl) (fun p6=>?_) (fun p6 W6 T hF hK=>?_)
 ·iterate 2 refine ok_L (by kernel_rfl) (by kernel_rfl) (by kernel_rfl) ?_
  refine ok_v (by kernel_rfl) ?_
  refine ok_vi ((wr64 (x:=n - 1) (by omega) (by omega)).trans hk) (by kernel_rfl) ?_
  refine ok_c (fun W cx=>as_v (unhide HV _)) (by kernel_rfl) ?_
  iterate 5 refine ok_v (by kernel_rfl) ?_
  exact ok_nil
 replace hS:=SymF.fb hS hF [0,1] [⟨(p1 0).N,#[.bool true,.string s,.int .i64 x],23,true⟩,⟨(p1 1).N,#[.bool true,.string s2,.int .i64 x2],23,true⟩] (by kernel_rfl) (by kernel_rfl)
 replace hG:=hF.gx
 clear hF
 have z6:=hS.fr.size
 refine wp_seq ?_
 refine wp_symQ hS hG hK (fun p7=>[.v 63 (.int .i64 0),.v 64 (.bool false),.v 65 (.bool false),.v 66 (.bool true),.v 67 (.bool false),.v 68 (.bool false),.v 69 (.bool false),.v 70 (.bool true),.v 71 (.bool false),.v 72 (.bool false),.v 73 (.bool false),.v 74 (.int .i64 1),.v 75 (.bool false),.v 76 (.bool false),.v 77 (.bool false),.v 78 (.int .i64 (-1)),.v 79 (.bool false),.v 80 (.bool false)]) (fun p7=>[(4,.int .u8 2),(5,.pointer (some ⟨(p1 0).N,0,none⟩)),(6,.pointer (some ⟨(p1 1).N,0,none⟩)),(10,.bool false),(11,.int .i64 1),(13,.int .i64 (-1)),(15,.int .i64 hf),(37,.bool false),(38,.bool false),(80,.bool false)]) (by kernel_rfl) (fun _ _=>by kernel_rfl) (fun _=>by kernel_rfl) (fun _=>by kernel_rfl) (fun p7=>?_) (fun p7 W7 T hF hK=>?_)
 ·iterate 18 refine ok_v (by kernel_rfl) ?_
  exact ok_nil
 replace hS:=SymF.fb hS hF [0,1] [⟨(p1 0).N,#[.bool true,.string s,.int .i64 x],23,true⟩,⟨(p1 1).N,#[.bool true,.string s2,.int .i64 x2],23,true⟩] (by kernel_rfl) (by kernel_rfl)
 replace hG:=hF.gx
 clear hF
 have z7:=hS.fr.size
 refine wp_cond_false (hK.ev 80 (by kernel_rfl) _ (by kernel_rfl)) ?_
 refine wp_skip ?_
 refine then_n ?_
 refine wp_seq ?_
 refine wp_symQ hS hG hK (fun p8=>[.v 81 (.int .u8 2)]) (fun p8=>[(5,.pointer (some ⟨(p1 0).N,0,none⟩)),(6,.pointer (some ⟨(p1 1).N,0,none⟩)),(10,.bool false),(11,.int .i64 1),(13,.int .i64 (-1)),(15,.int .i64 hf),(37,.bool false),(38,.bool false),(80,.bool false),(81,.int .u8 2)]) (by kernel_rfl) (fun _ _=>by kernel_rfl) (fun _=>by kernel_rfl) (fun _=>by kernel_rfl) (fun p8=>?_) (fun p8 W8 T hF hK=>?_)
 ·refine ok_v (by kernel_rfl) ?_
  exact ok_nil
 replace hS:=SymF.fb hS hF [0,1] [⟨(p1 0).N,#[.bool true,.string s,.int .i64 x],23,true⟩,⟨(p1 1).N,#[.bool true,.string s2,.int .i64 x2],23,true⟩] (by kernel_rfl) (by kernel_rfl)
 replace hG:=hF.gx
 clear hF
 have z8:=hS.fr.size
 refine wp_block ?_
 refine wp_symQ hS hG hK (fun p9=>[.v 83 (.bool false),.v 82 (.bool false)]) (fun p9=>[(5,.pointer (some ⟨(p1 0).N,0,none⟩)),(6,.pointer (some ⟨(p1 1).N,0,none⟩)),(10,.bool false),(11,.int .i64 1),(13,.int .i64 (-1)),(15,.int .i64 hf),(37,.bool false),(38,.bool false),(80,.bool false),(81,.int .u8 2),(82,.bool false)]) (by kernel_rfl) (fun _ _=>by kernel_rfl) (fun _=>by kernel_rfl) (fun _=>by kernel_rfl) (fun p9=>?_) (fun p9 W9 T hF hK=>?_)
 ·iterate 2 refine ok_v (by kernel_rfl) ?_
  exact ok_nil
 replace hS:=SymF.fb hS hF [0,1] [⟨(p1 0).N,#[.bool true,.string s,.int .i64 x],23,true⟩,⟨(p1 1).N,#[.bool true,.string s2,.int .i64 x2],23,true⟩] (by kernel_rfl) (by kernel_rfl)
 replace hG:=hF.gx
 clear hF
 have z9:=hS.fr.size
 refine wp_cond_false (hK.ev 82 (by kernel_rfl) _ (by kernel_rfl)) ?_
 refine wp_symQ hS hG hK (fun p10=>[.v 91 (.bool false),.v 90 (.bool false)]) (fun p10=>[(5,.pointer (some ⟨(p1 0).N,0,none⟩)),(6,.pointer (some ⟨(p1 1).N,0,none⟩)),(10,.bool false),(11,.int .i64 1),(13,.int .i64 (-1)),(15,.int .i64 hf),(37,.bool false),(38,.bool false),(80,.bool false),(81,.int .u8 2),(82,.bool false),(90,.bool false)]) (by kernel_rfl) (fun _ _=>by kernel_rfl) (fun _=>by kernel_rfl) (fun _=>by kernel_rfl) (fun p10=>?_) (fun p10 W10 T hF hK=>?_)
 ·iterate 2 refine ok_v (by kernel_rfl) ?_
  exact ok_nil
 replace hS:=SymF.fb hS hF [0,1] [⟨(p1 0).N,#[.bool true,.string s,.int .i64 x],23,true⟩,⟨(p1 1).N,#[.bool true,.string s2,.int .i64 x2],23,true⟩] (by kernel_rfl) (by kernel_rfl)
 replace hG:=hF.gx
 clear hF
 have z10:=hS.fr.size
 refine wp_cond_false (hK.ev 90 (by kernel_rfl) _ (by kernel_rfl)) ?_
 refine wp_symQ hS hG hK (fun p11=>[.v 99 (.bool true),.v 98 (.bool true)]) (fun p11=>[(5,.pointer (some ⟨(p1 0).N,0,none⟩)),(6,.pointer (some ⟨(p1 1).N,0,none⟩)),(10,.bool false),(11,.int .i64 1),(13,.int .i64 (-1)),(15,.int .i64 hf),(37,.bool false),(38,.bool false),(80,.bool false),(82,.bool false),(90,.bool false),(98,.bool true)]) (by kernel_rfl) (fun _ _=>by kernel_rfl) (fun _=>by kernel_rfl) (fun _=>by kernel_rfl) (fun p11=>?_) (fun p11 W11 T hF hK=>?_)
 ·iterate 2 refine ok_v (by kernel_rfl) ?_
  exact ok_nil
 replace hS:=SymF.fb hS hF [0,1] [⟨(p1 0).N,#[.bool true,.string s,.int .i64 x],23,true⟩,⟨(p1 1).N,#[.bool true,.string s2,.int .i64 x2],23,true⟩] (by kernel_rfl) (by kernel_rfl)
 replace hG:=hF.gx
 clear hF
 have z11:=hS.fr.size
 refine wp_cond_true (hK.ev 98 (by kernel_rfl) _ (by kernel_rfl)) ?_
 refine wp_symQ hS hG hK (fun p12=>[.v 100 (.int .i64 1),.v 101 (.bool false),.v 102 (.pointer (some ⟨(p1 0).N,0,none⟩)),.l 103 (.bool true) 0 0,.v 104 (.bool true),.v 105 (.bool true),.v 106 (.int .i64 (-1)),.v 107 (.bool true),.v 108 (.bool true),.v 10 (.bool true)]) (fun p12=>[(5,.pointer (some ⟨(p1 0).N,0,none⟩)),(6,.pointer (some ⟨(p1 1).N,0,none⟩)),(10,.bool true),(11,.int .i64 1),(13,.int .i64 (-1)),(15,.int .i64 hf),(37,.bool false),(38,.bool false),(80,.bool false),(82,.bool false),(90,.bool false),(98,.bool true)]) (by kernel_rfl) (fun _ _=>by kernel_rfl) (fun _=>by kernel_rfl) (fun _=>by kernel_rfl) (fun p12=>?_) (fun p12 W12 T hF hK=>?_)
 ·iterate 3 refine ok_v (by kernel_rfl) ?_
  refine ok_L (by kernel_rfl) (by kernel_rfl) (by kernel_rfl) ?_
  refine ok_vb (rfl) (by kernel_rfl) ?_
  iterate 5 refine ok_v (by kernel_rfl) ?_
  exact ok_nil
 replace hS:=SymF.fb hS hF [0,1] [⟨(p1 0).N,#[.bool true,.string s,.int .i64 x],23,true⟩,⟨(p1 1).N,#[.bool true,.string s2,.int .i64 x2],23,true⟩] (by kernel_rfl) (by kernel_rfl)
 replace hG:=hF.gx
 clear hF
 have z12:=hS.fr.size
 refine wp_ret ?_
 refine inb_r ?_
 refine then_r ?_
 exact sym_end hS hK (.bool true) [] [] (by kernel_rfl) (by kernel_rfl) ⟨rfl,hS.fr⟩
theorem near_2fz (w:World) (s:ByteArray) (x:Int) (s2:ByteArray) (x2:Int) (n k hf:Int) (hk:n - 1 = k) (hn0:-1000000≤n) (hn1:n≤1000000) (hq:(s2.toList != (⟨#[]⟩:ByteArray).toList) = false) (HK:Hid (∀ W:World,Calls Tryz.prog 25 #[.agg #[.bool false,.string s2,.int .i64 x2]] W fun e W'=>e = .returned (.int .i64 0)∧Below W.heap.size W W')) (HM:Hid (∀ W:World,Calls Tryz.prog 11 #[.agg #[.bool false,.string s2,.int .i64 x2],.agg #[.bool false,.string s,.int .i64 x]] W fun e W'=>e = .returned (.tuple #[.int .i64 (-1),.int .i64 0])∧Below W.heap.size W W')) (HU:Hid (∀ W:World,Calls Tryz.prog 57 #[.agg #[.bool false,.string s,.int .i64 x],.agg #[.bool false,.string s2,.int .i64 x2],.string ⟨#[49]⟩,.int .i64 n] W fun e W'=>e = .returned (.tuple #[.int .i64 (-1),.bool true])∧Below W.heap.size W W')) (HV:Hid (∀ W:World,Calls Tryz.prog 57 #[.agg #[.bool false,.string s,.int .i64 x],.agg #[.bool false,.string s2,.int .i64 x2],.string ⟨#[53]⟩,.int .i64 k] W fun e W'=>e = .returned (.tuple #[.int .i64 hf,.bool true])∧Below W.heap.size W W')) :
  Calls Tryz.prog 19 #[.agg #[.bool false,.string s,.int .i64 x],.agg #[.bool false,.string s2,.int .i64 x2],.bool false,.int .i64 n,.int .u8 2] w fun en w'=>en = .returned (.bool true)∧Below w.heap.size w w':=by
 refine calls_sym Tryz.func19 rfl (by kernel_rfl) fun T hK=>?_
 replace hK:Kn T _ [(0,.agg #[.bool false,.string s,.int .i64 x]),(1,.agg #[.bool false,.string s2,.int .i64 x2]),(2,.bool false),(3,.int .i64 n),(4,.int .u8 2)]:=hK
 have hS:=Fb.begin w
 have hG:GsAt [] w:=trivial
 refine wp_symQ hS hG hK (fun p1=>[.n 5 #[.bool false,.string s,.int .i64 x] 23,.n 6 #[.bool false,.string s2,.int .i64 x2] 23,.v 10 (.bool false)]) (fun p1=>[(2,.bool false),(3,.int .i64 n),(4,.int .u8 2),(5,.pointer (some ⟨(p1 0).N,0,none⟩)),(6,.pointer (some ⟨(p1 1).N,0,none⟩)),(10,.bool false)]) (by kernel_rfl) (fun _ _=>by kernel_rfl) (fun _=>by kernel_rfl) (fun _=>by kernel_rfl) (fun p1=>?_) (fun p1 W1 T hF hK=>?_)
 ·iterate 2 refine ok_n (fun _=>by kernel_rfl) ?_
  refine ok_v (by kernel_rfl) ?_
  exact ok_nil
 replace hS:=SymF.fb hS hF [1000,1001] [⟨(p1 0).N,#[.bool false,.string s,.int .i64 x],23,true⟩,⟨(p1 1).N,#[.bool false,.string s2,.int .i64 x2],23,true⟩] (by kernel_rfl) (by kernel_rfl)
 replace hG:=hF.gx
 clear hF
 have z1:=hS.fr.size
 refine wp_seq ?_
 refine wp_symQ hS hG hK (fun p2=>[.l 17 (.agg #[.bool false,.string s2,.int .i64 x2]) 1 0,.c (some 18) (cV (.int .i64 0)),.v 19 (.bool false),.v 20 (.bool false),.v 21 (.pointer (some ⟨(p1 1).N,0,none⟩)),.l 22 (.bool false) 1 0,.v 23 (.pointer (some ⟨(p1 0).N,0,none⟩)),.l 24 (.bool false) 0 0,.v 25 (.bool false),.v 26 (.bool false),.v 27 (.bool false),.v 28 (.pointer (some ⟨(p1 1).N,1,none⟩)),.l 29 (.string s2) 1 1,.v 30 (.bool false),.v 31 (.bool false),.k (some 32),.k (some 33),.k (some 34),.k (some 35),.v 36 (.bool false),.v 37 (.bool false)]) (fun p2=>[(2,.bool false),(3,.int .i64 n),(4,.int .u8 2),(5,.pointer (some ⟨(p1 0).N,0,none⟩)),(6,.pointer (some ⟨(p1 1).N,0,none⟩)),(10,.bool false),(37,.bool false)]) (by kernel_rfl) (fun _ _=>by kernel_rfl) (fun _=>by kernel_rfl) (fun _=>by kernel_rfl) (fun p2=>?_) (fun p2 W2 T hF hK=>?_)
 ·refine ok_L (by kernel_rfl) (by kernel_rfl) (by kernel_rfl) ?_
  refine ok_c (fun W cx=>as_v (unhide HK _)) (by kernel_rfl) ?_
  iterate 3 refine ok_v (by kernel_rfl) ?_
  refine ok_L (by kernel_rfl) (by kernel_rfl) (by kernel_rfl) ?_
  refine ok_v (by kernel_rfl) ?_
  refine ok_L (by kernel_rfl) (by kernel_rfl) (by kernel_rfl) ?_
  refine ok_vb (rfl) (by kernel_rfl) ?_
  iterate 3 refine ok_v (by kernel_rfl) ?_
  refine ok_L (by kernel_rfl) (by kernel_rfl) (by kernel_rfl) ?_
  refine ok_vb (hq) (by kernel_rfl) ?_
  refine ok_v (by kernel_rfl) ?_
  iterate 4 refine ok_K (by kernel_rfl) ?_
  iterate 2 refine ok_v (by kernel_rfl) ?_
  exact ok_nil
 replace hS:=SymF.fb hS hF [0,1] [⟨(p1 0).N,#[.bool false,.string s,.int .i64 x],23,true⟩,⟨(p1 1).N,#[.bool false,.string s2,.int .i64 x2],23,true⟩] (by kernel_rfl) (by kernel_rfl)
 replace hG:=hF.gx
 clear hF
 have z2:=hS.fr.size
 refine wp_cond_false (hK.ev 37 (by kernel_rfl) _ (by kernel_rfl)) ?_
 refine wp_skip ?_
 refine then_n ?_
 refine wp_seq ?_
 refine wp_symQ hS hG hK (fun p3=>[.v 38 (.bool false)]) (fun p3=>[(3,.int .i64 n),(4,.int .u8 2),(5,.pointer (some ⟨(p1 0).N,0,none⟩)),(6,.pointer (some ⟨(p1 1).N,0,none⟩)),(10,.bool false),(37,.bool false),(38,.bool false)]) (by kernel_rfl) (fun _ _=>by kernel_rfl) (fun _=>by kernel_rfl) (fun _=>by kernel_rfl) (fun p3=>?_) (fun p3 W3 T hF hK=>?_)
 ·refine ok_v (by kernel_rfl) ?_
  exact ok_nil
 replace hS:=SymF.fb hS hF [0,1] [⟨(p1 0).N,#[.bool false,.string s,.int .i64 x],23,true⟩,⟨(p1 1).N,#[.bool false,.string s2,.int .i64 x2],23,true⟩] (by kernel_rfl) (by kernel_rfl)
 replace hG:=hF.gx
 clear hF
 have z3:=hS.fr.size
 refine wp_cond_false (hK.ev 38 (by kernel_rfl) _ (by kernel_rfl)) ?_
 refine wp_skip ?_
 refine then_n ?_
 refine wp_symQ hS hG hK (fun p4=>[.l 43 (.agg #[.bool false,.string s2,.int .i64 x2]) 1 0,.l 44 (.agg #[.bool false,.string s,.int .i64 x]) 0 0,.c (some 45) (cV (.tuple #[.int .i64 (-1),.int .i64 0])),.v 42 (.tuple #[.int .i64 (-1),.int .i64 0]),.v 46 (.int .i64 (-1)),.v 47 (.int .i64 0),.v 11 (.int .i64 (-1)),.v 12 (.int .i64 0)]) (fun p4=>[(3,.int .i64 n),(4,.int .u8 2),(5,.pointer (some ⟨(p1 0).N,0,none⟩)),(6,.pointer (some ⟨(p1 1).N,0,none⟩)),(10,.bool false),(11,.int .i64 (-1)),(12,.int .i64 0),(37,.bool false),(38,.bool false)]) (by kernel_rfl) (fun _ _=>by kernel_rfl) (fun _=>by kernel_rfl) (fun _=>by kernel_rfl) (fun p4=>?_) (fun p4 W4 T hF hK=>?_)
 ·iterate 2 refine ok_L (by kernel_rfl) (by kernel_rfl) (by kernel_rfl) ?_
  refine ok_c (fun W cx=>as_v (unhide HM _)) (by kernel_rfl) ?_
  iterate 5 refine ok_v (by kernel_rfl) ?_
  exact ok_nil
 replace hS:=SymF.fb hS hF [0,1] [⟨(p1 0).N,#[.bool false,.string s,.int .i64 x],23,true⟩,⟨(p1 1).N,#[.bool false,.string s2,.int .i64 x2],23,true⟩] (by kernel_rfl) (by kernel_rfl)
 replace hG:=hF.gx
 clear hF
 have z4:=hS.fr.size
 refine wp_symQ hS hG hK (fun p5=>[.l 49 (.agg #[.bool false,.string s,.int .i64 x]) 0 0,.l 50 (.agg #[.bool false,.string s2,.int .i64 x2]) 1 0,.v 51 (.int .i64 n),.c (some 52) (cV (.tuple #[.int .i64 (-1),.bool true])),.v 48 (.tuple #[.int .i64 (-1),.bool true]),.v 53 (.int .i64 (-1)),.v 54 (.bool true),.v 13 (.int .i64 (-1)),.v 14 (.bool true)]) (fun p5=>[(3,.int .i64 n),(4,.int .u8 2),(5,.pointer (some ⟨(p1 0).N,0,none⟩)),(6,.pointer (some ⟨(p1 1).N,0,none⟩)),(10,.bool false),(11,.int .i64 (-1)),(12,.int .i64 0),(13,.int .i64 (-1)),(14,.bool true),(37,.bool false),(38,.bool false)]) (by kernel_rfl) (fun _ _=>by kernel_rfl) (fun _=>by kernel_rfl) (fun _=>by kernel_rfl) (fun p5=>?_) (fun p5 W5 T hF hK=>?_)
 ·iterate 2 refine ok_L (by kernel_rfl) (by kernel_rfl) (by kernel_rfl) ?_
  refine ok_v (by kernel_rfl) ?_
  refine ok_c (fun W cx=>as_v (unhide HU _)) (by kernel_rfl) ?_
  iterate 5 refine ok_v (by kernel_rfl) ?_
  exact ok_nil
 replace hS:=SymF.fb hS hF [0,1] [⟨(p1 0).N,#[.bool false,.string s,.int .i64 x],23,true⟩,⟨(p1 1).N,#[.bool false,.string s2,.int .i64 x2],23,true⟩] (by kernel_rfl) (by kernel_rfl)
 replace hG:=hF.gx
 clear hF
 have z5:=hS.fr.size
 refine wp_symQ hS hG hK (fun p6=>[.l 56 (.agg #[.bool false,.string s,.int .i64 x]) 0 0,.l 57 (.agg #[.bool false,.string s2,.int .i64 x2]) 1 0,.v 58 (.int .i64 n),.v 59 (.int .i64 k),.c (some 60) (cV (.tuple #[.int .i64 hf,.bool true])),.v 55 (.tuple #[.int .i64 hf,.bool true]),.v 61 (.int .i64 hf),.v 62 (.bool true),.v 15 (.int .i64 hf),.v 16 (.bool true)]) (fun p6=>[(4,.int .u8 2),(5,.pointer (some ⟨(p1 0).N,0,none⟩)),(6,.pointer (some ⟨(p1 1).N,0,none⟩)),(10,.bool false),(11,.int .i64 (-1)),(12,.int .i64 0),(13,.int .i64 (-1)),(14,.bool true),(15,.int .i64 hf),(16,.bool true),(37,.bool false),(38,.bool false)]) (by kernel_rfl) (fun _ _=>by kernel_rfl) (fun _=>by kernel_rfl) (fun _=>by kernel_rfl) (fun p6=>?_) (fun p6 W6 T hF hK=>?_)
 ·iterate 2 refine ok_L (by kernel_rfl) (by kernel_rfl) (by kernel_rfl) ?_
  refine ok_v (by kernel_rfl) ?_
  refine ok_vi ((wr64 (x:=n - 1) (by omega) (by omega)).trans hk) (by kernel_rfl) ?_
  refine ok_c (fun W cx=>as_v (unhide HV _)) (by kernel_rfl) ?_
  iterate 5 refine ok_v (by kernel_rfl) ?_
  exact ok_nil
 replace hS:=SymF.fb hS hF [0,1] [⟨(p1 0).N,#[.bool false,.string s,.int .i64 x],23,true⟩,⟨(p1 1).N,#[.bool false,.string s2,.int .i64 x2],23,true⟩] (by kernel_rfl) (by kernel_rfl)
 replace hG:=hF.gx
 clear hF
 have z6:=hS.fr.size
 refine wp_seq ?_
 refine wp_symQ hS hG hK (fun p7=>[.v 63 (.int .i64 0),.v 64 (.bool false),.v 65 (.bool false),.v 66 (.bool true),.v 67 (.bool false),.v 68 (.bool false),.v 69 (.bool false),.v 70 (.bool true),.v 71 (.bool false),.v 72 (.bool false),.v 73 (.bool false),.v 74 (.int .i64 (-1)),.v 75 (.bool false),.v 76 (.bool false),.v 77 (.bool false),.v 78 (.int .i64 (-1)),.v 79 (.bool false),.v 80 (.bool false)]) (fun p7=>[(4,.int .u8 2),(5,.pointer (some ⟨(p1 0).N,0,none⟩)),(6,.pointer (some ⟨(p1 1).N,0,none⟩)),(10,.bool false),(11,.int .i64 (-1)),(13,.int .i64 (-1)),(15,.int .i64 hf),(37,.bool false),(38,.bool false),(80,.bool false)]) (by kernel_rfl) (fun _ _=>by kernel_rfl) (fun _=>by kernel_rfl) (fun _=>by kernel_rfl) (fun p7=>?_) (fun p7 W7 T hF hK=>?_)
 ·iterate 18 refine ok_v (by kernel_rfl) ?_
  exact ok_nil
 replace hS:=SymF.fb hS hF [0,1] [⟨(p1 0).N,#[.bool false,.string s,.int .i64 x],23,true⟩,⟨(p1 1).N,#[.bool false,.string s2,.int .i64 x2],23,true⟩] (by kernel_rfl) (by kernel_rfl)
 replace hG:=hF.gx
 clear hF
 have z7:=hS.fr.size
 refine wp_cond_false (hK.ev 80 (by kernel_rfl) _ (by kernel_rfl)) ?_
 refine wp_skip ?_
 refine then_n ?_
 refine wp_seq ?_
 refine wp_symQ hS hG hK (fun p8=>[.v 81 (.int .u8 2)]) (fun p8=>[(5,.pointer (some ⟨(p1 0).N,0,none⟩)),(6,.pointer (some ⟨(p1 1).N,0,none⟩)),(10,.bool false),(11,.int .i64 (-1)),(13,.int .i64 (-1)),(15,.int .i64 hf),(37,.bool false),(38,.bool false),(80,.bool false),(81,.int .u8 2)]) (by kernel_rfl) (fun _ _=>by kernel_rfl) (fun _=>by kernel_rfl) (fun _=>by kernel_rfl) (fun p8=>?_) (fun p8 W8 T hF hK=>?_)
 ·refine ok_v (by kernel_rfl) ?_
  exact ok_nil
 replace hS:=SymF.fb hS hF [0,1] [⟨(p1 0).N,#[.bool false,.string s,.int .i64 x],23,true⟩,⟨(p1 1).N,#[.bool false,.string s2,.int .i64 x2],23,true⟩] (by kernel_rfl) (by kernel_rfl)
 replace hG:=hF.gx
 clear hF
 have z8:=hS.fr.size
 refine wp_block ?_
 refine wp_symQ hS hG hK (fun p9=>[.v 83 (.bool false),.v 82 (.bool false)]) (fun p9=>[(5,.pointer (some ⟨(p1 0).N,0,none⟩)),(6,.pointer (some ⟨(p1 1).N,0,none⟩)),(10,.bool false),(11,.int .i64 (-1)),(13,.int .i64 (-1)),(15,.int .i64 hf),(37,.bool false),(38,.bool false),(80,.bool false),(81,.int .u8 2),(82,.bool false)]) (by kernel_rfl) (fun _ _=>by kernel_rfl) (fun _=>by kernel_rfl) (fun _=>by kernel_rfl) (fun p9=>?_) (fun p9 W9 T hF hK=>?_)
 ·iterate 2 refine ok_v (by kernel_rfl) ?_
  exact ok_nil
 replace hS:=SymF.fb hS hF [0,1] [⟨(p1 0).N,#[.bool false,.string s,.int .i64 x],23,true⟩,⟨(p1 1).N,#[.bool false,.string s2,.int .i64 x2],23,true⟩] (by kernel_rfl) (by kernel_rfl)
 replace hG:=hF.gx
 clear hF
 have z9:=hS.fr.size
 refine wp_cond_false (hK.ev 82 (by kernel_rfl) _ (by kernel_rfl)) ?_
 refine wp_symQ hS hG hK (fun p10=>[.v 91 (.bool false),.v 90 (.bool false)]) (fun p10=>[(5,.pointer (some ⟨(p1 0).N,0,none⟩)),(6,.pointer (some ⟨(p1 1).N,0,none⟩)),(10,.bool false),(11,.int .i64 (-1)),(13,.int .i64 (-1)),(15,.int .i64 hf),(37,.bool false),(38,.bool false),(80,.bool false),(81,.int .u8 2),(82,.bool false),(90,.bool false)]) (by kernel_rfl) (fun _ _=>by kernel_rfl) (fun _=>by kernel_rfl) (fun _=>by kernel_rfl) (fun p10=>?_) (fun p10 W10 T hF hK=>?_)
 ·iterate 2 refine ok_v (by kernel_rfl) ?_
  exact ok_nil
 replace hS:=SymF.fb hS hF [0,1] [⟨(p1 0).N,#[.bool false,.string s,.int .i64 x],23,true⟩,⟨(p1 1).N,#[.bool false,.string s2,.int .i64 x2],23,true⟩] (by kernel_rfl) (by kernel_rfl)
 replace hG:=hF.gx
 clear hF
 have z10:=hS.fr.size
 refine wp_cond_false (hK.ev 90 (by kernel_rfl) _ (by kernel_rfl)) ?_
 refine wp_symQ hS hG hK (fun p11=>[.v 99 (.bool true),.v 98 (.bool true)]) (fun p11=>[(5,.pointer (some ⟨(p1 0).N,0,none⟩)),(6,.pointer (some ⟨(p1 1).N,0,none⟩)),(10,.bool false),(11,.int .i64 (-1)),(13,.int .i64 (-1)),(15,.int .i64 hf),(37,.bool false),(38,.bool false),(80,.bool false),(82,.bool false),(90,.bool false),(98,.bool true)]) (by kernel_rfl) (fun _ _=>by kernel_rfl) (fun _=>by kernel_rfl) (fun _=>by kernel_rfl) (fun p11=>?_) (fun p11 W11 T hF hK=>?_)
 ·iterate 2 refine ok_v (by kernel_rfl) ?_
  exact ok_nil
 replace hS:=SymF.fb hS hF [0,1] [⟨(p1 0).N,#[.bool false,.string s,.int .i64 x],23,true⟩,⟨(p1 1).N,#[.bool false,.string s2,.int .i64 x2],23,true⟩] (by kernel_rfl) (by kernel_rfl)
 replace hG:=hF.gx
 clear hF
 have z11:=hS.fr.size
 refine wp_cond_true (hK.ev 98 (by kernel_rfl) _ (by kernel_rfl)) ?_
 refine wp_symQ hS hG hK (fun p12=>[.v 100 (.int .i64 (-1)),.v 101 (.bool true),.v 102 (.pointer (some ⟨(p1 0).N,0,none⟩)),.l 103 (.bool false) 0 0,.v 104 (.bool true),.v 105 (.bool true),.v 106 (.int .i64 (-1)),.v 107 (.bool true),.v 108 (.bool true),.v 10 (.bool true)]) (fun p12=>[(5,.pointer (some ⟨(p1 0).N,0,none⟩)),(6,.pointer (some ⟨(p1 1).N,0,none⟩)),(10,.bool true),(11,.int .i64 (-1)),(13,.int .i64 (-1)),(15,.int .i64 hf),(37,.bool false),(38,.bool false),(80,.bool false),(82,.bool false),(90,.bool false),(98,.bool true)]) (by kernel_rfl) (fun _ _=>by kernel_rfl) (fun _=>by kernel_rfl) (fun _=>by kernel_rfl) (fun p12=>?_) (fun p12 W12 T hF hK=>?_)
 ·iterate 3 refine ok_v (by kernel_rfl) ?_
  refine ok_L (by kernel_rfl) (by kernel_rfl) (by kernel_rfl) ?_
  refine ok_vb (rfl) (by kernel_rfl) ?_
  iterate 5 refine ok_v (by kernel_rfl) ?_
  exact ok_nil
 replace hS:=SymF.fb hS hF [0,1] [⟨(p1 0).N,#[.bool false,.string s,.int .i64 x],23,true⟩,⟨(p1 1).N,#[.bool false,.string s2,.int .i64 x2],23,true⟩] (by kernel_rfl) (by kernel_rfl)
 replace hG:=hF.gx
 clear hF
 have z12:=hS.fr.size
 refine wp_ret ?_
 refine inb_r ?_
 refine then_r ?_
 exact sym_end hS hK (.bool true) [] [] (by kernel_rfl) (by kernel_rfl) ⟨rfl,hS.fr⟩
theorem near_2fn (w:World) (s:ByteArray) (x:Int) (s2:ByteArray) (x2:Int) (n k hf:Int) (hk:n - 1 = k) (hn0:-1000000≤n) (hn1:n≤1000000) (hq:(s2.toList != (⟨#[]⟩:ByteArray).toList) = true) (hx:n≤x2) (HK:Hid (∀ W:World,Calls Tryz.prog 25 #[.agg #[.bool false,.string s2,.int .i64 x2]] W fun e W'=>e = .returned (.int .i64 0)∧Below W.heap.size W W')) (HM:Hid (∀ W:World,Calls Tryz.prog 11 #[.agg #[.bool false,.string s2,.int .i64 x2],.agg #[.bool false,.string s,.int .i64 x]] W fun e W'=>e = .returned (.tuple #[.int .i64 (-1),.int .i64 0])∧Below W.heap.size W W')) (HU:Hid (∀ W:World,Calls Tryz.prog 57 #[.agg #[.bool false,.string s,.int .i64 x],.agg #[.bool false,.string s2,.int .i64 x2],.string ⟨#[49]⟩,.int .i64 n] W fun e W'=>e = .returned (.tuple #[.int .i64 (-1),.bool true])∧Below W.heap.size W W')) (HV:Hid (∀ W:World,Calls Tryz.prog 57 #[.agg #[.bool false,.string s,.int .i64 x],.agg #[.bool false,.string s2,.int .i64 x2],.string ⟨#[53]⟩,.int .i64 k] W fun e W'=>e = .returned (.tuple #[.int .i64 hf,.bool true])∧Below W.heap.size W W')) :
  Calls Tryz.prog 19 #[.agg #[.bool false,.string s,.int .i64 x],.agg #[.bool false,.string s2,.int .i64 x2],.bool false,.int .i64 n,.int .u8 2] w fun en w'=>en = .returned (.bool true)∧Below w.heap.size w w':=by
 refine calls_sym Tryz.func19 rfl (by kernel_rfl) fun T hK=>?_
 replace hK:Kn T _ [(0,.agg #[.bool false,.string s,.int .i64 x]),(1,.agg #[.bool false,.string s2,.int .i64 x2]),(2,.bool false),(3,.int .i64 n),(4,.int .u8 2)]:=hK
 have hS:=Fb.begin w
 have hG:GsAt [] w:=trivial
 refine wp_symQ hS hG hK (fun p1=>[.n 5 #[.bool false,.string s,.int .i64 x] 23,.n 6 #[.bool false,.string s2,.int .i64 x2] 23,.v 10 (.bool false)]) (fun p1=>[(2,.bool false),(3,.int .i64 n),(4,.int .u8 2),(5,.pointer (some ⟨(p1 0).N,0,none⟩)),(6,.pointer (some ⟨(p1 1).N,0,none⟩)),(10,.bool false)]) (by kernel_rfl) (fun _ _=>by kernel_rfl) (fun _=>by kernel_rfl) (fun _=>by kernel_rfl) (fun p1=>?_) (fun p1 W1 T hF hK=>?_)
 ·iterate 2 refine ok_n (fun _=>by kernel_rfl) ?_
  refine ok_v (by kernel_rfl) ?_
  exact ok_nil
 replace hS:=SymF.fb hS hF [1000,1001] [⟨(p1 0).N,#[.bool false,.string s,.int .i64 x],23,true⟩,⟨(p1 1).N,#[.bool false,.string s2,.int .i64 x2],23,true⟩] (by kernel_rfl) (by kernel_rfl)
 replace hG:=hF.gx
 clear hF
 have z1:=hS.fr.size
 refine wp_seq ?_
 refine wp_symQ hS hG hK (fun p2=>[.l 17 (.agg #[.bool false,.string s2,.int .i64 x2]) 1 0,.c (some 18) (cV (.int .i64 0)),.v 19 (.bool false),.v 20 (.bool false),.v 21 (.pointer (some ⟨(p1 1).N,0,none⟩)),.l 22 (.bool false) 1 0,.v 23 (.pointer (some ⟨(p1 0).N,0,none⟩)),.l 24 (.bool false) 0 0,.v 25 (.bool false),.v 26 (.bool false),.v 27 (.bool false),.v 28 (.pointer (some ⟨(p1 1).N,1,none⟩)),.l 29 (.string s2) 1 1,.v 30 (.bool true),.v 31 (.bool true),.v 32 (.pointer (some ⟨(p1 1).N,2,none⟩)),.l 33 (.int .i64 x2) 1 2,.v 34 (.int .i64 n),.v 35 (.bool false),.v 36 (.bool false),.v 37 (.bool false)]) (fun p2=>[(2,.bool false),(3,.int .i64 n),(4,.int .u8 2),(5,.pointer (some ⟨(p1 0).N,0,none⟩)),(6,.pointer (some ⟨(p1 1).N,0,none⟩)),(10,.bool false),(37,.bool false)]) (by kernel_rfl) (fun _ _=>by kernel_rfl) (fun _=>by kernel_rfl) (fun _=>by kernel_rfl) (fun p2=>?_) (fun p2 W2 T hF hK=>?_)
 ·refine ok_L (by kernel_rfl) (by kernel_rfl) (by kernel_rfl) ?_
  refine ok_c (fun W cx=>as_v (unhide HK _)) (by kernel_rfl) ?_
  iterate 3 refine ok_v (by kernel_rfl) ?_
  refine ok_L (by kernel_rfl) (by kernel_rfl) (by kernel_rfl) ?_
  refine ok_v (by kernel_rfl) ?_
  refine ok_L (by kernel_rfl) (by kernel_rfl) (by kernel_rfl) ?_
  refine ok_vb (rfl) (by kernel_rfl) ?_
  iterate 3 refine ok_v (by kernel_rfl) ?_
  refine ok_L (by kernel_rfl) (by kernel_rfl) (by kernel_rfl) ?_
  refine ok_vb (hq) (by kernel_rfl) ?_
  iterate 2 refine ok_v (by kernel_rfl) ?_
  refine ok_L (by kernel_rfl) (by kernel_rfl) (by kernel_rfl) ?_
  refine ok_v (by kernel_rfl) ?_
  refine ok_vb (decide_eq_false (show ¬ x2 < n by omega)) (by kernel_rfl) ?_
  iterate 2 refine ok_v (by kernel_rfl) ?_
  exact ok_nil
 replace hS:=SymF.fb hS hF [0,1] [⟨(p1 0).N,#[.bool false,.string s,.int .i64 x],23,true⟩,⟨(p1 1).N,#[.bool false,.string s2,.int .i64 x2],23,true⟩] (by kernel_rfl) (by kernel_rfl)
 replace hG:=hF.gx
 clear hF
 have z2:=hS.fr.size
 refine wp_cond_false (hK.ev 37 (by kernel_rfl) _ (by kernel_rfl)) ?_
 refine wp_skip ?_
 refine then_n ?_
 refine wp_seq ?_
 refine wp_symQ hS hG hK (fun p3=>[.v 38 (.bool false)]) (fun p3=>[(3,.int .i64 n),(4,.int .u8 2),(5,.pointer (some ⟨(p1 0).N,0,none⟩)),(6,.pointer (some ⟨(p1 1).N,0,none⟩)),(10,.bool false),(37,.bool false),(38,.bool false)]) (by kernel_rfl) (fun _ _=>by kernel_rfl) (fun _=>by kernel_rfl) (fun _=>by kernel_rfl) (fun p3=>?_) (fun p3 W3 T hF hK=>?_)
 ·refine ok_v (by kernel_rfl) ?_
  exact ok_nil
 replace hS:=SymF.fb hS hF [0,1] [⟨(p1 0).N,#[.bool false,.string s,.int .i64 x],23,true⟩,⟨(p1 1).N,#[.bool false,.string s2,.int .i64 x2],23,true⟩] (by kernel_rfl) (by kernel_rfl)
 replace hG:=hF.gx
 clear hF
 have z3:=hS.fr.size
 refine wp_cond_false (hK.ev 38 (by kernel_rfl) _ (by kernel_rfl)) ?_
 refine wp_skip ?_
 refine then_n ?_
 refine wp_symQ hS hG hK (fun p4=>[.l 43 (.agg #[.bool false,.string s2,.int .i64 x2]) 1 0,.l 44 (.agg #[.bool false,.string s,.int .i64 x]) 0 0,.c (some 45) (cV (.tuple #[.int .i64 (-1),.int .i64 0])),.v 42 (.tuple #[.int .i64 (-1),.int .i64 0]),.v 46 (.int .i64 (-1)),.v 47 (.int .i64 0),.v 11 (.int .i64 (-1)),.v 12 (.int .i64 0)]) (fun p4=>[(3,.int .i64 n),(4,.int .u8 2),(5,.pointer (some ⟨(p1 0).N,0,none⟩)),(6,.pointer (some ⟨(p1 1).N,0,none⟩)),(10,.bool false),(11,.int .i64 (-1)),(12,.int .i64 0),(37,.bool false),(38,.bool false)]) (by kernel_rfl) (fun _ _=>by kernel_rfl) (fun _=>by kernel_rfl) (fun _=>by kernel_rfl) (fun p4=>?_) (fun p4 W4 T hF hK=>?_)
 ·iterate 2 refine ok_L (by kernel_rfl) (by kernel_rfl) (by kernel_rfl) ?_
  refine ok_c (fun W cx=>as_v (unhide HM _)) (by kernel_rfl) ?_
  iterate 5 refine ok_v (by kernel_rfl) ?_
  exact ok_nil
 replace hS:=SymF.fb hS hF [0,1] [⟨(p1 0).N,#[.bool false,.string s,.int .i64 x],23,true⟩,⟨(p1 1).N,#[.bool false,.string s2,.int .i64 x2],23,true⟩] (by kernel_rfl) (by kernel_rfl)
 replace hG:=hF.gx
 clear hF
 have z4:=hS.fr.size
 refine wp_symQ hS hG hK (fun p5=>[.l 49 (.agg #[.bool false,.string s,.int .i64 x]) 0 0,.l 50 (.agg #[.bool false,.string s2,.int .i64 x2]) 1 0,.v 51 (.int .i64 n),.c (some 52) (cV (.tuple #[.int .i64 (-1),.bool true])),.v 48 (.tuple #[.int .i64 (-1),.bool true]),.v 53 (.int .i64 (-1)),.v 54 (.bool true),.v 13 (.int .i64 (-1)),.v 14 (.bool true)]) (fun p5=>[(3,.int .i64 n),(4,.int .u8 2),(5,.pointer (some ⟨(p1 0).N,0,none⟩)),(6,.pointer (some ⟨(p1 1).N,0,none⟩)),(10,.bool false),(11,.int .i64 (-1)),(12,.int .i64 0),(13,.int .i64 (-1)),(14,.bool true),(37,.bool false),(38,.bool false)]) (by kernel_rfl) (fun _ _=>by kernel_rfl) (fun _=>by kernel_rfl) (fun _=>by kernel_rfl) (fun p5=>?_) (fun p5 W5 T hF hK=>?_)
 ·iterate 2 refine ok_L (by kernel_rfl) (by kernel_rfl) (by kernel_rfl) ?_
  refine ok_v (by kernel_rfl) ?_
  refine ok_c (fun W cx=>as_v (unhide HU _)) (by kernel_rfl) ?_
  iterate 5 refine ok_v (by kernel_rfl) ?_
  exact ok_nil
 replace hS:=SymF.fb hS hF [0,1] [⟨(p1 0).N,#[.bool false,.string s,.int .i64 x],23,true⟩,⟨(p1 1).N,#[.bool false,.string s2,.int .i64 x2],23,true⟩] (by kernel_rfl) (by kernel_rfl)
 replace hG:=hF.gx
 clear hF
 have z5:=hS.fr.size
 refine wp_symQ hS hG hK (fun p6=>[.l 56 (.agg #[.bool false,.string s,.int .i64 x]) 0 0,.l 57 (.agg #[.bool false,.string s2,.int .i64 x2]) 1 0,.v 58 (.int .i64 n),.v 59 (.int .i64 k),.c (some 60) (cV (.tuple #[.int .i64 hf,.bool true])),.v 55 (.tuple #[.int .i64 hf,.bool true]),.v 61 (.int .i64 hf),.v 62 (.bool true),.v 15 (.int .i64 hf),.v 16 (.bool true)]) (fun p6=>[(4,.int .u8 2),(5,.pointer (some ⟨(p1 0).N,0,none⟩)),(6,.pointer (some ⟨(p1 1).N,0,none⟩)),(10,.bool false),(11,.int .i64 (-1)),(12,.int .i64 0),(13,.int .i64 (-1)),(14,.bool true),(15,.int .i64 hf),(16,.bool true),(37,.bool false),(38,.bool false)]) (by kernel_rfl) (fun _ _=>by kernel_rfl) (fun _=>by kernel_rfl) (fun _=>by kernel_rfl) (fun p6=>?_) (fun p6 W6 T hF hK=>?_)
 ·iterate 2 refine ok_L (by kernel_rfl) (by kernel_rfl) (by kernel_rfl) ?_
  refine ok_v (by kernel_rfl) ?_
  refine ok_vi ((wr64 (x:=n - 1) (by omega) (by omega)).trans hk) (by kernel_rfl) ?_
  refine ok_c (fun W cx=>as_v (unhide HV _)) (by kernel_rfl) ?_
  iterate 5 refine ok_v (by kernel_rfl) ?_
  exact ok_nil
 replace hS:=SymF.fb hS hF [0,1] [⟨(p1 0).N,#[.bool false,.string s,.int .i64 x],23,true⟩,⟨(p1 1).N,#[.bool false,.string s2,.int .i64 x2],23,true⟩] (by kernel_rfl) (by kernel_rfl)
 replace hG:=hF.gx
 clear hF
 have z6:=hS.fr.size
 refine wp_seq ?_
 refine wp_symQ hS hG hK (fun p7=>[.v 63 (.int .i64 0),.v 64 (.bool false),.v 65 (.bool false),.v 66 (.bool true),.v 67 (.bool false),.v 68 (.bool false),.v 69 (.bool false),.v 70 (.bool true),.v 71 (.bool false),.v 72 (.bool false),.v 73 (.bool false),.v 74 (.int .i64 (-1)),.v 75 (.bool false),.v 76 (.bool false),.v 77 (.bool false),.v 78 (.int .i64 (-1)),.v 79 (.bool false),.v 80 (.bool false)]) (fun p7=>[(4,.int .u8 2),(5,.pointer (some ⟨(p1 0).N,0,none⟩)),(6,.pointer (some ⟨(p1 1).N,0,none⟩)),(10,.bool false),(11,.int .i64 (-1)),(13,.int .i64 (-1)),(15,.int .i64 hf),(37,.bool false),(38,.bool false),(80,.bool false)]) (by kernel_rfl) (fun _ _=>by kernel_rfl) (fun _=>by kernel_rfl) (fun _=>by kernel_rfl) (fun p7=>?_) (fun p7 W7 T hF hK=>?_)
 ·iterate 18 refine ok_v (by kernel_rfl) ?_
  exact ok_nil
 replace hS:=SymF.fb hS hF [0,1] [⟨(p1 0).N,#[.bool false,.string s,.int .i64 x],23,true⟩,⟨(p1 1).N,#[.bool false,.string s2,.int .i64 x2],23,true⟩] (by kernel_rfl) (by kernel_rfl)
 replace hG:=hF.gx
 clear hF
 have z7:=hS.fr.size
 refine wp_cond_false (hK.ev 80 (by kernel_rfl) _ (by kernel_rfl)) ?_
 refine wp_skip ?_
 refine then_n ?_
 refine wp_seq ?_
 refine wp_symQ hS hG hK (fun p8=>[.v 81 (.int .u8 2)]) (fun p8=>[(5,.pointer (some ⟨(p1 0).N,0,none⟩)),(6,.pointer (some ⟨(p1 1).N,0,none⟩)),(10,.bool false),(11,.int .i64 (-1)),(13,.int .i64 (-1)),(15,.int .i64 hf),(37,.bool false),(38,.bool false),(80,.bool false),(81,.int .u8 2)]) (by kernel_rfl) (fun _ _=>by kernel_rfl) (fun _=>by kernel_rfl) (fun _=>by kernel_rfl) (fun p8=>?_) (fun p8 W8 T hF hK=>?_)
 ·refine ok_v (by kernel_rfl) ?_
  exact ok_nil
 replace hS:=SymF.fb hS hF [0,1] [⟨(p1 0).N,#[.bool false,.string s,.int .i64 x],23,true⟩,⟨(p1 1).N,#[.bool false,.string s2,.int .i64 x2],23,true⟩] (by kernel_rfl) (by kernel_rfl)
 replace hG:=hF.gx
 clear hF
 have z8:=hS.fr.size
 refine wp_block ?_
 refine wp_symQ hS hG hK (fun p9=>[.v 83 (.bool false),.v 82 (.bool false)]) (fun p9=>[(5,.pointer (some ⟨(p1 0).N,0,none⟩)),(6,.pointer (some ⟨(p1 1).N,0,none⟩)),(10,.bool false),(11,.int .i64 (-1)),(13,.int .i64 (-1)),(15,.int .i64 hf),(37,.bool false),(38,.bool false),(80,.bool false),(81,.int .u8 2),(82,.bool false)]) (by kernel_rfl) (fun _ _=>by kernel_rfl) (fun _=>by kernel_rfl) (fun _=>by kernel_rfl) (fun p9=>?_) (fun p9 W9 T hF hK=>?_)
 ·iterate 2 refine ok_v (by kernel_rfl) ?_
  exact ok_nil
 replace hS:=SymF.fb hS hF [0,1] [⟨(p1 0).N,#[.bool false,.string s,.int .i64 x],23,true⟩,⟨(p1 1).N,#[.bool false,.string s2,.int .i64 x2],23,true⟩] (by kernel_rfl) (by kernel_rfl)
 replace hG:=hF.gx
 clear hF
 have z9:=hS.fr.size
 refine wp_cond_false (hK.ev 82 (by kernel_rfl) _ (by kernel_rfl)) ?_
 refine wp_symQ hS hG hK (fun p10=>[.v 91 (.bool false),.v 90 (.bool false)]) (fun p10=>[(5,.pointer (some ⟨(p1 0).N,0,none⟩)),(6,.pointer (some ⟨(p1 1).N,0,none⟩)),(10,.bool false),(11,.int .i64 (-1)),(13,.int .i64 (-1)),(15,.int .i64 hf),(37,.bool false),(38,.bool false),(80,.bool false),(81,.int .u8 2),(82,.bool false),(90,.bool false)]) (by kernel_rfl) (fun _ _=>by kernel_rfl) (fun _=>by kernel_rfl) (fun _=>by kernel_rfl) (fun p10=>?_) (fun p10 W10 T hF hK=>?_)
 ·iterate 2 refine ok_v (by kernel_rfl) ?_
  exact ok_nil
 replace hS:=SymF.fb hS hF [0,1] [⟨(p1 0).N,#[.bool false,.string s,.int .i64 x],23,true⟩,⟨(p1 1).N,#[.bool false,.string s2,.int .i64 x2],23,true⟩] (by kernel_rfl) (by kernel_rfl)
 replace hG:=hF.gx
 clear hF
 have z10:=hS.fr.size
 refine wp_cond_false (hK.ev 90 (by kernel_rfl) _ (by kernel_rfl)) ?_
 refine wp_symQ hS hG hK (fun p11=>[.v 99 (.bool true),.v 98 (.bool true)]) (fun p11=>[(5,.pointer (some ⟨(p1 0).N,0,none⟩)),(6,.pointer (some ⟨(p1 1).N,0,none⟩)),(10,.bool false),(11,.int .i64 (-1)),(13,.int .i64 (-1)),(15,.int .i64 hf),(37,.bool false),(38,.bool false),(80,.bool false),(82,.bool false),(90,.bool false),(98,.bool true)]) (by kernel_rfl) (fun _ _=>by kernel_rfl) (fun _=>by kernel_rfl) (fun _=>by kernel_rfl) (fun p11=>?_) (fun p11 W11 T hF hK=>?_)
 ·iterate 2 refine ok_v (by kernel_rfl) ?_
  exact ok_nil
 replace hS:=SymF.fb hS hF [0,1] [⟨(p1 0).N,#[.bool false,.string s,.int .i64 x],23,true⟩,⟨(p1 1).N,#[.bool false,.string s2,.int .i64 x2],23,true⟩] (by kernel_rfl) (by kernel_rfl)
 replace hG:=hF.gx
 clear hF
 have z11:=hS.fr.size
 refine wp_cond_true (hK.ev 98 (by kernel_rfl) _ (by kernel_rfl)) ?_
 refine wp_symQ hS hG hK (fun p12=>[.v 100 (.int .i64 (-1)),.v 101 (.bool true),.v 102 (.pointer (some ⟨(p1 0).N,0,none⟩)),.l 103 (.bool false) 0 0,.v 104 (.bool true),.v 105 (.bool true),.v 106 (.int .i64 (-1)),.v 107 (.bool true),.v 108 (.bool true),.v 10 (.bool true)]) (fun p12=>[(5,.pointer (some ⟨(p1 0).N,0,none⟩)),(6,.pointer (some ⟨(p1 1).N,0,none⟩)),(10,.bool true),(11,.int .i64 (-1)),(13,.int .i64 (-1)),(15,.int .i64 hf),(37,.bool false),(38,.bool false),(80,.bool false),(82,.bool false),(90,.bool false),(98,.bool true)]) (by kernel_rfl) (fun _ _=>by kernel_rfl) (fun _=>by kernel_rfl) (fun _=>by kernel_rfl) (fun p12=>?_) (fun p12 W12 T hF hK=>?_)
 ·iterate 3 refine ok_v (by kernel_rfl) ?_
  refine ok_L (by kernel_rfl) (by kernel_rfl) (by kernel_rfl) ?_
  refine ok_vb (rfl) (by kernel_rfl) ?_
  iterate 5 refine ok_v (by kernel_rfl) ?_
  exact ok_nil
 replace hS:=SymF.fb hS hF [0,1] [⟨(p1 0).N,#[.bool false,.string s,.int .i64 x],23,true⟩,⟨(p1 1).N,#[.bool false,.string s2,.int .i64 x2],23,true⟩] (by kernel_rfl) (by kernel_rfl)
 replace hG:=hF.gx
 clear hF
 have z12:=hS.fr.size
 refine wp_ret ?_
 refine inb_r ?_
 refine then_r ?_
 exact sym_end hS hK (.bool true) [] [] (by kernel_rfl) (by kernel_rfl) ⟨rfl,hS.fr⟩
end Go.Proofs.YtbblodioaedckaaGreat
