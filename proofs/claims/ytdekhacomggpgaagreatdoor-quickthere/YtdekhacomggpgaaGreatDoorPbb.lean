/- Of what QuickThereRow stands on: QkTheW. -/
import Derived.Test.YtdekhacomggpgaaGreatDoorPal
import Derived.Test.YtdekhacomggpgaaGreatDoorPax
import Derived.Test.YtdekhacomggpgaaGreatDoorPay
import Derived.Test.YtdekhacomggpgaaGreatDoorPai
import Derived.Test.YtdekhacomggpgaaGreatDoorPba
namespace Go.Proofs.YtdekhacomggpgaaGreatDoor
open Go.RowKit
set_option maxHeartbeats 2000000
set_option maxRecDepth 20000
theorem script_snil {P:Program} {r:Nat} {s:ByteArray} (h:s.size≠0):script P r (Op.stringOp .eql s ⟨#[]⟩) [] = some (.bool false,[]):=by
 show some (Value.bool (s.toList == ByteArray.toList ⟨#[]⟩),[]) = _
 have e:(s.toList == ByteArray.toList ⟨#[]⟩) = false:=by
  rw [ByteArray.toList_eq,ByteArray.toList_eq]
  refine beq_false_of_ne fun e=>h ?_
  have e2:s.data.toList.length = 0:=congrArg List.length e
  rw [Array.length_toList] at e2
  exact e2
 rw [e]
theorem qwhole_ok (w:World) (s:ByteArray) (n:Nat) (h0:s.size≠0) (HN:Hid (∀ W:World,Calls Tryz.prog 33 #[.string s] W fun e W'=>e = .returned (.tuple #[.int .u64 (n:Int),.bool true])∧Below W.heap.size W W')) :
  Calls Tryz.prog 15 #[.string s] w fun en w'=>en = .returned (.tuple #[.float .f64 (floatOfInt .f64 (n:Int)),.bool true])∧Below w.heap.size w w':=by
 refine calls_sym Tryz.func15 rfl (by kernel_rfl) fun T hK=>?_
 replace hK:Kn T _ [(0,.string s)]:=hK
 have hS:=Fb.begin w
 have hG:GsAt [] w:=trivial
 refine wp_symQ hS hG hK (fun p1=>[.v 2 (.float FloatKind.f64 0),.v 3 (.bool false)]) (fun p1=>[(0,.string s),(2,.float FloatKind.f64 0),(3,.bool false)]) (by kernel_rfl) (fun _ _=>by kernel_rfl) (fun _=>by kernel_rfl) (fun _=>by kernel_rfl) (fun p1=>?_) (fun p1 W1 T hF hK=>?_)
 ·iterate 2 refine ok_v (by kernel_rfl) ?_
  exact ok_nil
 replace hS:=SymF.fb hS hF [] [] (by kernel_rfl) (by kernel_rfl)
 replace hG:=hF.gx
 clear hF
 have z1:=hS.fr.size
 refine wp_symQ hS hG hK (fun p2=>[.v 7 (.string s),.c (some 8) (cV (.tuple #[.int .u64 (n:Int),.bool true])),.v 6 (.tuple #[.int .u64 (n:Int),.bool true]),.v 9 (.int .u64 (n:Int)),.v 10 (.bool true),.v 4 (.int .u64 (n:Int)),.v 5 (.bool true)]) (fun p2=>[(0,.string s),(2,.float FloatKind.f64 0),(3,.bool false),(4,.int .u64 (n:Int)),(5,.bool true)]) (by kernel_rfl) (fun _ _=>by kernel_rfl) (fun _=>by kernel_rfl) (fun _=>by kernel_rfl) (fun p2=>?_) (fun p2 W2 T hF hK=>?_)
 ·refine ok_v (by kernel_rfl) ?_
  refine ok_c (fun W cx=>as_v (unhide HN _)) (by kernel_rfl) ?_
  iterate 5 refine ok_v (by kernel_rfl) ?_
  exact ok_nil
 replace hS:=SymF.fb hS hF [] [] (by kernel_rfl) (by kernel_rfl)
 replace hG:=hF.gx
 clear hF
 have z2:=hS.fr.size
 refine wp_seq ?_
 refine wp_symQ hS hG hK (fun p3=>[.v 11 (.bool true),.v 12 (.bool false),.v 13 (.bool false),.v 14 (.string s),.v 15 (.bool false),.v 16 (.bool false)]) (fun p3=>[(2,.float FloatKind.f64 0),(3,.bool false),(4,.int .u64 (n:Int)),(16,.bool false)]) (by kernel_rfl) (fun _ _=>by kernel_rfl) (fun _=>by kernel_rfl) (fun _=>by kernel_rfl) (fun p3=>?_) (fun p3 W3 T hF hK=>?_)
 ·iterate 4 refine ok_v (by kernel_rfl) ?_
  refine ok_vr (script_snil h0) (by kernel_rfl) ?_
  refine ok_v (by kernel_rfl) ?_
  exact ok_nil
 replace hS:=SymF.fb hS hF [] [] (by kernel_rfl) (by kernel_rfl)
 replace hG:=hF.gx
 clear hF
 have z3:=hS.fr.size
 refine wp_cond_false (hK.ev 16 (by kernel_rfl) _ (by kernel_rfl)) ?_
 refine wp_skip ?_
 refine then_n ?_
 refine wp_symQ hS hG hK (fun p4=>[.v 17 (.int .u64 (n:Int)),.c (some 18) (cV (.float .f64 (floatOfInt .f64 (n:Int)))),.v 2 (.float .f64 (floatOfInt .f64 (n:Int))),.v 3 (.bool true)]) (fun p4=>[(2,.float .f64 (floatOfInt .f64 (n:Int))),(3,.bool true),(16,.bool false)]) (by kernel_rfl) (fun _ _=>by kernel_rfl) (fun _=>by kernel_rfl) (fun _=>by kernel_rfl) (fun p4=>?_) (fun p4 W4 T hF hK=>?_)
 ·refine ok_v (by kernel_rfl) ?_
  refine ok_c (fun W cx=>as_v (qnear64 _ n)) (by kernel_rfl) ?_
  iterate 2 refine ok_v (by kernel_rfl) ?_
  exact ok_nil
 replace hS:=SymF.fb hS hF [] [] (by kernel_rfl) (by kernel_rfl)
 replace hG:=hF.gx
 clear hF
 have z4:=hS.fr.size
 refine wp_ret ?_
 exact sym_end hS hK (.tuple #[.float .f64 (floatOfInt .f64 (n:Int)),.bool true]) [] [] (by kernel_rfl) (by kernel_rfl) ⟨rfl,hS.fr⟩
theorem rparse_d (w:World) (s:ByteArray) (M R S:Nat) (hl:s.size≤65536) (HP:Hid (∀ W:World,Calls Tryz.prog 35 #[.string s,.string ⟨#[45]⟩] W fun e W'=>e = .returned (.tuple #[.string s,.bool false])∧Below W.heap.size W W')) (HC:Hid (∀ W:World,Calls Tryz.prog 36 #[.string s,.string ⟨#[47]⟩] W fun e W'=>e = .returned (.tuple #[.string s,.string ⟨#[]⟩,.bool false])∧Below W.heap.size W W')) (H1:Hid (∀ W:World,Calls Tryz.prog 37 #[.string s] W fun en W'=>(∃ a n c,en = .returned (.tuple #[.agg #[.slice a n c],.int .i64 0,.int .i64 0])∧Mine W' W.heap.size a n c M)∧Below W.heap.size W W')) (H2:Hid (∀ W:World,Calls Tryz.prog 38 #[.int .u64 1] W fun en W'=>(∃ a n c,en = .returned (.agg #[.slice a n c])∧Mine W' W.heap.size a n c 1)∧Below W.heap.size W W')) (HM:Hid (∀ (W:World) (a:Option Addr) (n c:Nat) (a':Option Addr) (n' c':Nat),Num W a n M→Num W a' n' 1→Calls Tryz.prog 25 #[.bool false,.agg #[.slice a n c],.agg #[.slice a' n' c']] W fun en W'=>(∃ a n c a' n' c',en = .returned (.tuple #[.agg #[.bool false,.slice a n c,.slice a' n' c'],.int .i64 0])∧Mine W' W.heap.size a n c R∧Mine W' W.heap.size a' n' c' S)∧Below W.heap.size W W'))  :
  Calls Tryz.prog 16 #[.string s] w fun en w'=>(∃ a n c a' n' c',en = .returned (.tuple #[.agg #[.bool false,.slice a n c,.slice a' n' c'],.int .i64 0,.int .i64 0])∧Mine w' w.heap.size a n c R∧Mine w' w.heap.size a' n' c' S)∧Below w.heap.size w w':=by
 refine calls_sym Tryz.func16 rfl (by kernel_rfl) fun T hK=>?_
 replace hK:Kn T _ [(0,.string s)]:=hK
 have hS:=Fb.begin w
 have hG:GsAt [] w:=trivial
 refine wp_symQ hS hG hK (fun p1=>[.n 2 #[.bool false,.slice none 0 0,.slice none 0 0] 31,.v 3 (.int .i64 0),.v 4 (.int .i64 0)]) (fun p1=>[(0,.string s),(2,.pointer (some ⟨(p1 0).N,0,none⟩)),(3,.int .i64 0),(4,.int .i64 0)]) (by kernel_rfl) (fun _ _=>by kernel_rfl) (fun _=>by kernel_rfl) (fun _=>by kernel_rfl) (fun p1=>?_) (fun p1 W1 T hF hK=>?_)
 ·refine ok_n (fun _=>by kernel_rfl) ?_
  iterate 2 refine ok_v (by kernel_rfl) ?_
  exact ok_nil
 replace hS:=SymF.fb hS hF [1000] [⟨(p1 0).N,#[.bool false,.slice none 0 0,.slice none 0 0],31,true⟩] (by kernel_rfl) (by kernel_rfl)
 replace hG:=hF.gx
 clear hF
 have z1:=hS.fr.size
 refine wp_seq ?_
 refine wp_symQ hS hG hK (fun p2=>[.v 16 (.string s),.v 17 (.int .i64 (s.size:Int)),.v 18 (.bool false)]) (fun p2=>[(0,.string s),(2,.pointer (some ⟨(p1 0).N,0,none⟩)),(3,.int .i64 0),(4,.int .i64 0),(18,.bool false)]) (by kernel_rfl) (fun _ _=>by kernel_rfl) (fun _=>by kernel_rfl) (fun _=>by kernel_rfl) (fun p2=>?_) (fun p2 W2 T hF hK=>?_)
 ·iterate 2 refine ok_v (by kernel_rfl) ?_
  refine ok_vb (decide_eq_false (show ¬ (s.size:Int) > 65536 by omega)) (by kernel_rfl) ?_
  exact ok_nil
 replace hS:=SymF.fb hS hF [0] [⟨(p1 0).N,#[.bool false,.slice none 0 0,.slice none 0 0],31,true⟩] (by kernel_rfl) (by kernel_rfl)
 replace hG:=hF.gx
 clear hF
 have z2:=hS.fr.size
 refine wp_cond_false (hK.ev 18 (by kernel_rfl) _ (by kernel_rfl)) ?_
 refine wp_skip ?_
 refine then_n ?_
 refine wp_symQ hS hG hK (fun p3=>[.v 21 (.string s),.c (some 22) (cV (.tuple #[.string s,.bool false])),.v 20 (.tuple #[.string s,.bool false]),.v 23 (.string s),.v 24 (.bool false),.v 5 (.string s),.v 6 (.bool false)]) (fun p3=>[(0,.string s),(2,.pointer (some ⟨(p1 0).N,0,none⟩)),(3,.int .i64 0),(4,.int .i64 0),(5,.string s),(6,.bool false),(18,.bool false)]) (by kernel_rfl) (fun _ _=>by kernel_rfl) (fun _=>by kernel_rfl) (fun _=>by kernel_rfl) (fun p3=>?_) (fun p3 W3 T hF hK=>?_)
 ·refine ok_v (by kernel_rfl) ?_
  refine ok_c (fun W cx=>as_v (unhide HP _)) (by kernel_rfl) ?_
  iterate 5 refine ok_v (by kernel_rfl) ?_
  exact ok_nil
 replace hS:=SymF.fb hS hF [0] [⟨(p1 0).N,#[.bool false,.slice none 0 0,.slice none 0 0],31,true⟩] (by kernel_rfl) (by kernel_rfl)
 replace hG:=hF.gx
 clear hF
 have z3:=hS.fr.size
 refine wp_symQ hS hG hK (fun p4=>[.v 26 (.string s),.c (some 27) (cV (.tuple #[.string s,.string ⟨#[]⟩,.bool false])),.v 25 (.tuple #[.string s,.string ⟨#[]⟩,.bool false]),.v 28 (.string s),.v 29 (.string ⟨#[]⟩),.v 30 (.bool false),.v 7 (.string s),.v 8 (.string ⟨#[]⟩),.v 9 (.bool false)]) (fun p4=>[(0,.string s),(2,.pointer (some ⟨(p1 0).N,0,none⟩)),(3,.int .i64 0),(4,.int .i64 0),(5,.string s),(6,.bool false),(7,.string s),(8,.string ⟨#[]⟩),(9,.bool false),(18,.bool false)]) (by kernel_rfl) (fun _ _=>by kernel_rfl) (fun _=>by kernel_rfl) (fun _=>by kernel_rfl) (fun p4=>?_) (fun p4 W4 T hF hK=>?_)
 ·refine ok_v (by kernel_rfl) ?_
  refine ok_c (fun W cx=>as_v (unhide HC _)) (by kernel_rfl) ?_
  iterate 7 refine ok_v (by kernel_rfl) ?_
  exact ok_nil
 replace hS:=SymF.fb hS hF [0] [⟨(p1 0).N,#[.bool false,.slice none 0 0,.slice none 0 0],31,true⟩] (by kernel_rfl) (by kernel_rfl)
 replace hG:=hF.gx
 clear hF
 have z4:=hS.fr.size
 refine wp_symQ hS hG hK (fun p5=>[.v 31 (.string s),.v 32 (.int .i64 (s.size:Int)),.v 33 (.string s),.v 34 (.int .i64 (s.size:Int)),.v 35 (.int .i64 0),.v 10 (.int .i64 0)]) (fun p5=>[(2,.pointer (some ⟨(p1 0).N,0,none⟩)),(3,.int .i64 0),(4,.int .i64 0),(6,.bool false),(7,.string s),(8,.string ⟨#[]⟩),(9,.bool false),(10,.int .i64 0),(18,.bool false)]) (by kernel_rfl) (fun _ _=>by kernel_rfl) (fun _=>by kernel_rfl) (fun _=>by kernel_rfl) (fun p5=>?_) (fun p5 W5 T hF hK=>?_)
 ·iterate 4 refine ok_v (by kernel_rfl) ?_
  refine ok_vi ((wr64 (x:=(s.size:Int) - (s.size:Int)) (by omega) (by omega)).trans (by omega)) (by kernel_rfl) ?_
  refine ok_v (by kernel_rfl) ?_
  exact ok_nil
 replace hS:=SymF.fb hS hF [0] [⟨(p1 0).N,#[.bool false,.slice none 0 0,.slice none 0 0],31,true⟩] (by kernel_rfl) (by kernel_rfl)
 replace hG:=hF.gx
 clear hF
 have z5:=hS.fr.size
 refine wp_symQ hS hG hK (fun p6=>[.v 37 (.string s),.c (some 38) (cG W5.heap.size M fun x9=>.tuple #[.agg #[x9],.int .i64 0,.int .i64 0]),.v 36 (.tuple #[.agg #[.slice (p6 1).A (p6 1).N (p6 1).C],.int .i64 0,.int .i64 0]),.v 39 (.agg #[.slice (p6 1).A (p6 1).N (p6 1).C]),.v 40 (.int .i64 0),.v 41 (.int .i64 0),.n 11 #[.slice none 0 0] 29,.p 1006 0 [.slice (p6 1).A (p6 1).N (p6 1).C],.v 12 (.int .i64 0),.v 13 (.int .i64 0)]) (fun p6=>[(2,.pointer (some ⟨(p1 0).N,0,none⟩)),(3,.int .i64 0),(4,.int .i64 0),(6,.bool false),(7,.string s),(8,.string ⟨#[]⟩),(9,.bool false),(10,.int .i64 0),(11,.pointer (some ⟨(p6 6).N,0,none⟩)),(12,.int .i64 0),(13,.int .i64 0),(18,.bool false)]) (by kernel_rfl) (fun _ _=>by kernel_rfl) (fun _=>by kernel_rfl) (fun _=>by kernel_rfl) (fun p6=>?_) (fun p6 W6 T hF hK=>?_)
 ·refine ok_v (by kernel_rfl) ?_
  refine ok_c (fun W cx=>as_g cx.hb (unhide H1 _)) (by kernel_rfl) ?_
  iterate 4 refine ok_v (by kernel_rfl) ?_
  refine ok_n (fun _=>by kernel_rfl) ?_
  refine ok_P (by kernel_rfl) (by kernel_rfl) (by kernel_rfl) ?_
  iterate 2 refine ok_v (by kernel_rfl) ?_
  exact ok_nil
 replace hS:=SymF.fb hS hF [0,1006] [⟨(p1 0).N,#[.bool false,.slice none 0 0,.slice none 0 0],31,true⟩,⟨(p6 6).N,#[.slice (p6 1).A (p6 1).N (p6 1).C],29,true⟩] (by kernel_rfl) (by kernel_rfl)
 replace hG:GsAt (gM W5.heap.size (p6 1).A (p6 1).N (p6 1).C M :: _) W6:=⟨hF.fx 1,hF.gx⟩
 clear hF
 have z6:=hS.fr.size
 refine wp_seq ?_
 refine wp_symQ hS hG hK (fun p7=>[.v 42 (.int .i64 0),.v 43 (.bool false)]) (fun p7=>[(2,.pointer (some ⟨(p1 0).N,0,none⟩)),(3,.int .i64 0),(4,.int .i64 0),(6,.bool false),(7,.string s),(8,.string ⟨#[]⟩),(9,.bool false),(10,.int .i64 0),(11,.pointer (some ⟨(p6 6).N,0,none⟩)),(12,.int .i64 0),(13,.int .i64 0),(18,.bool false),(43,.bool false)]) (by kernel_rfl) (fun _ _=>by kernel_rfl) (fun _=>by kernel_rfl) (fun _=>by kernel_rfl) (fun p7=>?_) (fun p7 W7 T hF hK=>?_)
 ·iterate 2 refine ok_v (by kernel_rfl) ?_
  exact ok_nil
 replace hS:=SymF.fb hS hF [0,1] [⟨(p1 0).N,#[.bool false,.slice none 0 0,.slice none 0 0],31,true⟩,⟨(p6 6).N,#[.slice (p6 1).A (p6 1).N (p6 1).C],29,true⟩] (by kernel_rfl) (by kernel_rfl)
 replace hG:=hF.gx
 clear hF
 have z7:=hS.fr.size
 refine wp_cond_false (hK.ev 43 (by kernel_rfl) _ (by kernel_rfl)) ?_
 refine wp_skip ?_
 refine then_n ?_
 refine wp_symQ hS hG hK (fun p8=>[.c (some 49) (cN W7.heap.size 1),.n 14 #[.slice none 0 0] 29,.p 1001 0 [.slice (p8 0).A (p8 0).N (p8 0).C]]) (fun p8=>[(2,.pointer (some ⟨(p1 0).N,0,none⟩)),(3,.int .i64 0),(4,.int .i64 0),(6,.bool false),(7,.string s),(8,.string ⟨#[]⟩),(9,.bool false),(10,.int .i64 0),(11,.pointer (some ⟨(p6 6).N,0,none⟩)),(12,.int .i64 0),(13,.int .i64 0),(14,.pointer (some ⟨(p8 1).N,0,none⟩)),(18,.bool false),(43,.bool false)]) (by kernel_rfl) (fun _ _=>by kernel_rfl) (fun _=>by kernel_rfl) (fun _=>by kernel_rfl) (fun p8=>?_) (fun p8 W8 T hF hK=>?_)
 ·refine ok_c (fun W cx=>as_n cx.hb (unhide H2 _)) (by kernel_rfl) ?_
  refine ok_n (fun _=>by kernel_rfl) ?_
  refine ok_P (by kernel_rfl) (by kernel_rfl) (by kernel_rfl) ?_
  exact ok_nil
 replace hS:=SymF.fb hS hF [0,1,1001] [⟨(p1 0).N,#[.bool false,.slice none 0 0,.slice none 0 0],31,true⟩,⟨(p6 6).N,#[.slice (p6 1).A (p6 1).N (p6 1).C],29,true⟩,⟨(p8 1).N,#[.slice (p8 0).A (p8 0).N (p8 0).C],29,true⟩] (by kernel_rfl) (by kernel_rfl)
 replace hG:GsAt (gM W7.heap.size (p8 0).A (p8 0).N (p8 0).C 1 :: _) W8:=⟨hF.fx 0,hF.gx⟩
 clear hF
 have z8:=hS.fr.size
 refine wp_seq ?_
 refine wp_symQ hS hG hK (fun p9=>[.v 50 (.bool false)]) (fun p9=>[(2,.pointer (some ⟨(p1 0).N,0,none⟩)),(3,.int .i64 0),(4,.int .i64 0),(6,.bool false),(7,.string s),(8,.string ⟨#[]⟩),(10,.int .i64 0),(11,.pointer (some ⟨(p6 6).N,0,none⟩)),(12,.int .i64 0),(13,.int .i64 0),(14,.pointer (some ⟨(p8 1).N,0,none⟩)),(18,.bool false),(43,.bool false),(50,.bool false)]) (by kernel_rfl) (fun _ _=>by kernel_rfl) (fun _=>by kernel_rfl) (fun _=>by kernel_rfl) (fun p9=>?_) (fun p9 W9 T hF hK=>?_)
 ·refine ok_v (by kernel_rfl) ?_
  exact ok_nil
 replace hS:=SymF.fb hS hF [0,1,2] [⟨(p1 0).N,#[.bool false,.slice none 0 0,.slice none 0 0],31,true⟩,⟨(p6 6).N,#[.slice (p6 1).A (p6 1).N (p6 1).C],29,true⟩,⟨(p8 1).N,#[.slice (p8 0).A (p8 0).N (p8 0).C],29,true⟩] (by kernel_rfl) (by kernel_rfl)
 replace hG:=hF.gx
 clear hF
 have z9:=hS.fr.size
 refine wp_cond_false (hK.ev 50 (by kernel_rfl) _ (by kernel_rfl)) ?_
 refine wp_skip ?_
 refine then_n ?_
 refine wp_symQ hS hG hK (fun p10=>[.v 70 (.bool false),.l 71 (.agg #[.slice (p6 1).A (p6 1).N (p6 1).C]) 1 0,.l 72 (.agg #[.slice (p8 0).A (p8 0).N (p8 0).C]) 2 0,.c (some 73) (cH W9.heap.size R S fun x9 y9=>.tuple #[.agg #[.bool false,x9,y9],.int .i64 0]),.v 69 (.tuple #[.agg #[.bool false,.slice (p10 3).A (p10 3).N (p10 3).C,.slice (p10 3).A' (p10 3).N' (p10 3).C'],.int .i64 0]),.v 74 (.agg #[.bool false,.slice (p10 3).A (p10 3).N (p10 3).C,.slice (p10 3).A' (p10 3).N' (p10 3).C']),.v 75 (.int .i64 0),.n 15 #[.bool false,.slice none 0 0,.slice none 0 0] 31,.p 1007 0 [.bool false,.slice (p10 3).A (p10 3).N (p10 3).C,.slice (p10 3).A' (p10 3).N' (p10 3).C'],.v 13 (.int .i64 0)]) (fun p10=>[(2,.pointer (some ⟨(p1 0).N,0,none⟩)),(3,.int .i64 0),(4,.int .i64 0),(7,.string s),(8,.string ⟨#[]⟩),(10,.int .i64 0),(12,.int .i64 0),(13,.int .i64 0),(14,.pointer (some ⟨(p8 1).N,0,none⟩)),(15,.pointer (some ⟨(p10 7).N,0,none⟩)),(18,.bool false),(43,.bool false),(50,.bool false)]) (by kernel_rfl) (fun _ _=>by kernel_rfl) (fun _=>by kernel_rfl) (fun _=>by kernel_rfl) (fun p10=>?_) (fun p10 W10 T hF hK=>?_)
 ·refine ok_v (by kernel_rfl) ?_
  iterate 2 refine ok_L (by kernel_rfl) (by kernel_rfl) (by kernel_rfl) ?_
  refine ok_c (fun W cx=>as_h cx.hb (unhide HM _ _ _ (p6 1).C _ _ (p8 0).C (Mine.num cx.G.2.1) (Mine.num cx.G.1))) (by kernel_rfl) ?_
  iterate 3 refine ok_v (by kernel_rfl) ?_
  refine ok_n (fun _=>by kernel_rfl) ?_
  refine ok_P (by kernel_rfl) (by kernel_rfl) (by kernel_rfl) ?_
  refine ok_v (by kernel_rfl) ?_
  exact ok_nil
 replace hS:=SymF.fb hS hF [0,2,1007] [⟨(p1 0).N,#[.bool false,.slice none 0 0,.slice none 0 0],31,true⟩,⟨(p8 1).N,#[.slice (p8 0).A (p8 0).N (p8 0).C],29,true⟩,⟨(p10 7).N,#[.bool false,.slice (p10 3).A (p10 3).N (p10 3).C,.slice (p10 3).A' (p10 3).N' (p10 3).C'],31,true⟩] (by kernel_rfl) (by kernel_rfl)
 replace hG:GsAt (gM W9.heap.size (p10 3).A (p10 3).N (p10 3).C R :: gM W9.heap.size (p10 3).A' (p10 3).N' (p10 3).C' S :: _) W10:=⟨And.left (hF.fx 3),And.right (hF.fx 3),hF.gx⟩
 clear hF
 have z10:=hS.fr.size
 refine wp_seq ?_
 refine wp_symQ hS hG hK (fun p11=>[.v 76 (.int .i64 0),.v 77 (.bool false)]) (fun p11=>[(2,.pointer (some ⟨(p1 0).N,0,none⟩)),(3,.int .i64 0),(4,.int .i64 0),(7,.string s),(8,.string ⟨#[]⟩),(10,.int .i64 0),(12,.int .i64 0),(13,.int .i64 0),(14,.pointer (some ⟨(p8 1).N,0,none⟩)),(15,.pointer (some ⟨(p10 7).N,0,none⟩)),(18,.bool false),(43,.bool false),(50,.bool false),(77,.bool false)]) (by kernel_rfl) (fun _ _=>by kernel_rfl) (fun _=>by kernel_rfl) (fun _=>by kernel_rfl) (fun p11=>?_) (fun p11 W11 T hF hK=>?_)
 ·iterate 2 refine ok_v (by kernel_rfl) ?_
  exact ok_nil
 replace hS:=SymF.fb hS hF [0,1,2] [⟨(p1 0).N,#[.bool false,.slice none 0 0,.slice none 0 0],31,true⟩,⟨(p8 1).N,#[.slice (p8 0).A (p8 0).N (p8 0).C],29,true⟩,⟨(p10 7).N,#[.bool false,.slice (p10 3).A (p10 3).N (p10 3).C,.slice (p10 3).A' (p10 3).N' (p10 3).C'],31,true⟩] (by kernel_rfl) (by kernel_rfl)
 replace hG:=hF.gx
 clear hF
 have z11:=hS.fr.size
 refine wp_cond_false (hK.ev 77 (by kernel_rfl) _ (by kernel_rfl)) ?_
 refine wp_skip ?_
 refine then_n ?_
 refine wp_symQ hS hG hK (fun p12=>[.l 81 (.agg #[.bool false,.slice (p10 3).A (p10 3).N (p10 3).C,.slice (p10 3).A' (p10 3).N' (p10 3).C']) 2 0,.p 0 0 [.bool false,.slice (p10 3).A (p10 3).N (p10 3).C,.slice (p10 3).A' (p10 3).N' (p10 3).C'],.v 3 (.int .i64 0),.v 4 (.int .i64 0)]) (fun p12=>[(2,.pointer (some ⟨(p1 0).N,0,none⟩)),(3,.int .i64 0),(4,.int .i64 0),(7,.string s),(8,.string ⟨#[]⟩),(10,.int .i64 0),(12,.int .i64 0),(13,.int .i64 0),(14,.pointer (some ⟨(p8 1).N,0,none⟩)),(18,.bool false),(43,.bool false),(50,.bool false),(77,.bool false)]) (by kernel_rfl) (fun _ _=>by kernel_rfl) (fun _=>by kernel_rfl) (fun _=>by kernel_rfl) (fun p12=>?_) (fun p12 W12 T hF hK=>?_)
 ·refine ok_L (by kernel_rfl) (by kernel_rfl) (by kernel_rfl) ?_
  refine ok_P (by kernel_rfl) (by kernel_rfl) (by kernel_rfl) ?_
  iterate 2 refine ok_v (by kernel_rfl) ?_
  exact ok_nil
 replace hS:=SymF.fb hS hF [0,1] [⟨(p1 0).N,#[.bool false,.slice (p10 3).A (p10 3).N (p10 3).C,.slice (p10 3).A' (p10 3).N' (p10 3).C'],31,true⟩,⟨(p8 1).N,#[.slice (p8 0).A (p8 0).N (p8 0).C],29,true⟩] (by kernel_rfl) (by kernel_rfl)
 replace hG:=hF.gx
 clear hF
 have z12:=hS.fr.size
 refine wp_ret ?_
 exact sym_end hS hK (.tuple #[.agg #[.bool false,.slice (p10 3).A (p10 3).N (p10 3).C,.slice (p10 3).A' (p10 3).N' (p10 3).C'],.int .i64 0,.int .i64 0]) [(0,0,3)] [.bool false,.slice (p10 3).A (p10 3).N (p10 3).C,.slice (p10 3).A' (p10 3).N' (p10 3).C'] (by kernel_rfl) (by kernel_rfl) ⟨⟨_,_,_,_,_,_,rfl,Mine.mono hG.1 z9,Mine.mono hG.2.1 z9⟩,hS.fr⟩
theorem there_walk (w:World) (n m z fl R S:Nat) (t:ByteArray) (ht:Tpw w) (hT:Tb w) (hm:Int.tmod (n:Int) 10000000000000000000 = (m:Int)) (H0:Hid (∀ W:World,Calls Tryz.prog 5 #[] W fun e W'=>e = .returned (.bool true)∧Below W.heap.size W W')) (HF:Hid (∀ W:World,Tpw W→Calls Tryz.prog 14 #[.int .u64 (m:Int),.int .i64 10] W fun e W'=>e = .returned (.string t)∧Below W.heap.size W W')) (HW:Hid (∀ W:World,Calls Tryz.prog 15 #[.string t] W fun e W'=>e = .returned (.tuple #[.float .f64 z,.bool true])∧Below W.heap.size W W')) (HP:Hid (∀ W:World,Calls Tryz.prog 16 #[.string t] W fun en W'=>(∃ a n c a' n' c',en = .returned (.tuple #[.agg #[.bool false,.slice a n c,.slice a' n' c'],.int .i64 0,.int .i64 0])∧Mine W' W.heap.size a n c R∧Mine W' W.heap.size a' n' c' S)∧Below W.heap.size W W')) (HR:Hid (∀ (W:World) (A:Option Addr) (N C:Nat) (A':Option Addr) (N' C':Nat),Tb W→Num W A N R→Num W A' N' S→Calls Tryz.prog 10 #[.agg #[.int .i64 11,.int .i64 52],.agg #[.bool false,.slice A N C,.slice A' N' C'],.bool false,.int .u8 0] W fun e W'=>e = .returned (.tuple #[.int .u64 (z:Int),.int .u8 (fl:Int),.int .i64 0])∧Below W.heap.size W W')) :
  Calls Tryz.prog 4 #[.int .u64 (n:Int)] w fun en w'=>en = .returned (.bool true)∧Below w.heap.size w w':=by
 refine calls_sym Tryz.func4 rfl (by kernel_rfl) fun T hK=>?_
 replace hK:Kn T _ [(0,.int .u64 (n:Int))]:=hK
 have hS:=Fb.begin w
 have hG:GsAt [] w:=trivial
 refine wp_symQ hS hG hK (fun p1=>[.v 2 (.bool false)]) (fun p1=>[(0,.int .u64 (n:Int)),(2,.bool false)]) (by kernel_rfl) (fun _ _=>by kernel_rfl) (fun _=>by kernel_rfl) (fun _=>by kernel_rfl) (fun p1=>?_) (fun p1 W1 T hF hK=>?_)
 ·refine ok_v (by kernel_rfl) ?_
  exact ok_nil
 replace hS:=SymF.fb hS hF [] [] (by kernel_rfl) (by kernel_rfl)
 replace hG:=hF.gx
 clear hF
 have z1:=hS.fr.size
 refine wp_symQ hS hG hK (fun p2=>[.c (some 14) (cV (.bool true)),.v 3 (.bool true)]) (fun p2=>[(0,.int .u64 (n:Int)),(2,.bool false),(3,.bool true)]) (by kernel_rfl) (fun _ _=>by kernel_rfl) (fun _=>by kernel_rfl) (fun _=>by kernel_rfl) (fun p2=>?_) (fun p2 W2 T hF hK=>?_)
 ·refine ok_c (fun W cx=>as_v (unhide H0 _)) (by kernel_rfl) ?_
  refine ok_v (by kernel_rfl) ?_
  exact ok_nil
 replace hS:=SymF.fb hS hF [] [] (by kernel_rfl) (by kernel_rfl)
 replace hG:=hF.gx
 clear hF
 have z2:=hS.fr.size
 refine wp_symQ hS hG hK (fun p3=>[.v 15 (.int .u64 (n:Int)),.v 16 (.int .u64 (m:Int)),.v 4 (.int .u64 (m:Int))]) (fun p3=>[(2,.bool false),(3,.bool true),(4,.int .u64 (m:Int))]) (by kernel_rfl) (fun _ _=>by kernel_rfl) (fun _=>by kernel_rfl) (fun _=>by kernel_rfl) (fun p3=>?_) (fun p3 W3 T hF hK=>?_)
 ·refine ok_v (by kernel_rfl) ?_
  refine ok_vi (hm) (by kernel_rfl) ?_
  refine ok_v (by kernel_rfl) ?_
  exact ok_nil
 replace hS:=SymF.fb hS hF [] [] (by kernel_rfl) (by kernel_rfl)
 replace hG:=hF.gx
 clear hF
 have z3:=hS.fr.size
 refine wp_symQ hS hG hK (fun p4=>[.v 17 (.int .u64 (m:Int)),.c (some 18) (cV (.string t)),.v 5 (.string t)]) (fun p4=>[(2,.bool false),(3,.bool true),(5,.string t)]) (by kernel_rfl) (fun _ _=>by kernel_rfl) (fun _=>by kernel_rfl) (fun _=>by kernel_rfl) (fun p4=>?_) (fun p4 W4 T hF hK=>?_)
 ·refine ok_v (by kernel_rfl) ?_
  refine ok_c (fun W cx=>as_v (unhide HF _ (ht.kept cx.fr))) (by kernel_rfl) ?_
  refine ok_v (by kernel_rfl) ?_
  exact ok_nil
 replace hS:=SymF.fb hS hF [] [] (by kernel_rfl) (by kernel_rfl)
 replace hG:=hF.gx
 clear hF
 have z4:=hS.fr.size
 refine wp_symQ hS hG hK (fun p5=>[.v 20 (.string t),.c (some 21) (cV (.tuple #[.float .f64 z,.bool true])),.v 19 (.tuple #[.float .f64 z,.bool true]),.v 22 (.float .f64 z),.v 23 (.bool true),.v 6 (.float .f64 z),.v 7 (.bool true)]) (fun p5=>[(2,.bool false),(3,.bool true),(5,.string t),(6,.float .f64 z),(7,.bool true)]) (by kernel_rfl) (fun _ _=>by kernel_rfl) (fun _=>by kernel_rfl) (fun _=>by kernel_rfl) (fun p5=>?_) (fun p5 W5 T hF hK=>?_)
 ·refine ok_v (by kernel_rfl) ?_
  refine ok_c (fun W cx=>as_v (unhide HW _)) (by kernel_rfl) ?_
  iterate 5 refine ok_v (by kernel_rfl) ?_
  exact ok_nil
 replace hS:=SymF.fb hS hF [] [] (by kernel_rfl) (by kernel_rfl)
 replace hG:=hF.gx
 clear hF
 have z5:=hS.fr.size
 refine wp_symQ hS hG hK (fun p6=>[.v 25 (.string t),.c (some 26) (cH W5.heap.size R S fun x9 y9=>.tuple #[.agg #[.bool false,x9,y9],.int .i64 0,.int .i64 0]),.v 24 (.tuple #[.agg #[.bool false,.slice (p6 1).A (p6 1).N (p6 1).C,.slice (p6 1).A' (p6 1).N' (p6 1).C'],.int .i64 0,.int .i64 0]),.v 27 (.agg #[.bool false,.slice (p6 1).A (p6 1).N (p6 1).C,.slice (p6 1).A' (p6 1).N' (p6 1).C']),.v 28 (.int .i64 0),.v 29 (.int .i64 0),.n 8 #[.bool false,.slice none 0 0,.slice none 0 0] 31,.p 1006 0 [.bool false,.slice (p6 1).A (p6 1).N (p6 1).C,.slice (p6 1).A' (p6 1).N' (p6 1).C'],.v 9 (.int .i64 0),.v 10 (.int .i64 0)]) (fun p6=>[(2,.bool false),(3,.bool true),(6,.float .f64 z),(7,.bool true),(8,.pointer (some ⟨(p6 6).N,0,none⟩)),(10,.int .i64 0)]) (by kernel_rfl) (fun _ _=>by kernel_rfl) (fun _=>by kernel_rfl) (fun _=>by kernel_rfl) (fun p6=>?_) (fun p6 W6 T hF hK=>?_)
 ·refine ok_v (by kernel_rfl) ?_
  refine ok_c (fun W cx=>as_h cx.hb (unhide HP _)) (by kernel_rfl) ?_
  iterate 4 refine ok_v (by kernel_rfl) ?_
  refine ok_n (fun _=>by kernel_rfl) ?_
  refine ok_P (by kernel_rfl) (by kernel_rfl) (by kernel_rfl) ?_
  iterate 2 refine ok_v (by kernel_rfl) ?_
  exact ok_nil
 replace hS:=SymF.fb hS hF [1006] [⟨(p6 6).N,#[.bool false,.slice (p6 1).A (p6 1).N (p6 1).C,.slice (p6 1).A' (p6 1).N' (p6 1).C'],31,true⟩] (by kernel_rfl) (by kernel_rfl)
 replace hG:GsAt (gM W5.heap.size (p6 1).A (p6 1).N (p6 1).C R :: gM W5.heap.size (p6 1).A' (p6 1).N' (p6 1).C' S :: _) W6:=⟨And.left (hF.fx 1),And.right (hF.fx 1),hF.gx⟩
 clear hF
 have z6:=hS.fr.size
 refine wp_symQ hS hG hK (fun p7=>[.v 31 (.agg #[.int .i64 11,.int .i64 52]),.l 32 (.agg #[.bool false,.slice (p6 1).A (p6 1).N (p6 1).C,.slice (p6 1).A' (p6 1).N' (p6 1).C']) 0 0,.c (some 33) (cV (.tuple #[.int .u64 (z:Int),.int .u8 (fl:Int),.int .i64 0])),.v 30 (.tuple #[.int .u64 (z:Int),.int .u8 (fl:Int),.int .i64 0]),.v 34 (.int .u64 (z:Int)),.v 35 (.int .u8 (fl:Int)),.v 36 (.int .i64 0),.v 11 (.int .u64 (z:Int)),.v 12 (.int .u8 (fl:Int)),.v 13 (.int .i64 0)]) (fun p7=>[(2,.bool false),(3,.bool true),(6,.float .f64 z),(7,.bool true),(10,.int .i64 0),(11,.int .u64 (z:Int)),(13,.int .i64 0)]) (by kernel_rfl) (fun _ _=>by kernel_rfl) (fun _=>by kernel_rfl) (fun _=>by kernel_rfl) (fun p7=>?_) (fun p7 W7 T hF hK=>?_)
 ·refine ok_v (by kernel_rfl) ?_
  refine ok_L (by kernel_rfl) (by kernel_rfl) (by kernel_rfl) ?_
  refine ok_c (fun W cx=>as_v (unhide HR _ _ _ (p6 1).C _ _ (p6 1).C' (hT.kept cx.fr) (Mine.num cx.G.1) (Mine.num cx.G.2.1))) (by kernel_rfl) ?_
  iterate 7 refine ok_v (by kernel_rfl) ?_
  exact ok_nil
 replace hS:=SymF.fb hS hF [] [] (by kernel_rfl) (by kernel_rfl)
 replace hG:=hF.gx
 clear hF
 have z7:=hS.fr.size
 refine wp_symQ hS hG hK (fun p8=>[.v 37 (.bool true),.v 38 (.bool true),.v 39 (.bool true),.v 40 (.bool true),.v 41 (.bool true),.v 42 (.int .i64 0),.v 43 (.bool true),.v 44 (.bool true),.v 45 (.bool true),.v 46 (.int .i64 0),.v 47 (.bool true),.v 48 (.bool true),.v 49 (.bool true),.v 50 (.float .f64 z),.v 51 (.int .u64 (z:Int)),.v 52 (.int .u64 (z:Int)),.v 53 (.bool true),.v 54 (.bool true),.v 2 (.bool true)]) (fun p8=>[(2,.bool true)]) (by kernel_rfl) (fun _ _=>by kernel_rfl) (fun _=>by kernel_rfl) (fun _=>by kernel_rfl) (fun p8=>?_) (fun p8 W8 T hF hK=>?_)
 ·iterate 16 refine ok_v (by kernel_rfl) ?_
  refine ok_vb (beq_self_eq_true (z:Int)) (by kernel_rfl) ?_
  iterate 2 refine ok_v (by kernel_rfl) ?_
  exact ok_nil
 replace hS:=SymF.fb hS hF [] [] (by kernel_rfl) (by kernel_rfl)
 replace hG:=hF.gx
 clear hF
 have z8:=hS.fr.size
 refine wp_ret ?_
 exact sym_end hS hK (.bool true) [] [] (by kernel_rfl) (by kernel_rfl) ⟨rfl,hS.fr⟩
end Go.Proofs.YtdekhacomggpgaaGreatDoor
