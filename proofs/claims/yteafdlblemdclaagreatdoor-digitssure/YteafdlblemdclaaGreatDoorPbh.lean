/- Of what DigitsSureRow stands on: DcNamW. -/
import Derived.Test.YteafdlblemdclaaGreatDoorPap
import Derived.Test.YteafdlblemdclaaGreatDoorPay
import Derived.Test.YteafdlblemdclaaGreatDoorPaz
import Derived.Test.YteafdlblemdclaaGreatDoorPbf
namespace Go.Proofs.YteafdlblemdclaaGreatDoor
open Go.RowKit
set_option maxHeartbeats 2000000
set_option maxRecDepth 20000
theorem drat_ok (w:World) (g:Bool) (s:ByteArray) (x:Int) (p q M A B Q R S:Nat) (g2:Bool) (hx0:-1073741824≤x) (hx1:x≤1073741824) (hp:max x 0 = (p:Int)) (hq:max (-x) 0 = (q:Int)) (HC:Hid (∀ W:World,Calls Tryz.prog 14 #[.agg #[.bool g,.string s,.int .i64 x]] W fun e W'=>e = .returned (.int .i64 0)∧Below W.heap.size W W')) (H1:Hid (∀ W:World,Calls Tryz.prog 35 #[.agg #[.bool g,.string s,.int .i64 x]] W fun en W'=>(∃ a n c,en = .returned (.agg #[.slice a n c])∧Mine W' W.heap.size a n c M)∧Below W.heap.size W W')) (HA:Hid (∀ W:World,Calls Tryz.prog 36 #[.int .u32 10,.int .i64 (p:Int)] W fun en W'=>(∃ a n c,en = .returned (.tuple #[.agg #[.slice a n c],.int .i64 0])∧Mine W' W.heap.size a n c A)∧Below W.heap.size W W')) (HB:Hid (∀ W:World,Calls Tryz.prog 36 #[.int .u32 10,.int .i64 (q:Int)] W fun en W'=>(∃ a n c,en = .returned (.tuple #[.agg #[.slice a n c],.int .i64 0])∧Mine W' W.heap.size a n c B)∧Below W.heap.size W W')) (HQ:Hid (∀ (W:World) (a:Option Addr) (n c:Nat) (a':Option Addr) (n' c':Nat),Num W a n M→Num W a' n' A→Calls Tryz.prog 34 #[.agg #[.slice a n c],.agg #[.slice a' n' c']] W fun en W'=>(∃ a n c,en = .returned (.tuple #[.agg #[.slice a n c],.int .i64 0])∧Mine W' W.heap.size a n c Q)∧Below W.heap.size W W')) (HM:Hid (∀ (W:World) (a:Option Addr) (n c:Nat) (a':Option Addr) (n' c':Nat),Num W a n Q→Num W a' n' B→Calls Tryz.prog 37 #[.bool g,.agg #[.slice a n c],.agg #[.slice a' n' c']] W fun en W'=>(∃ a n c a' n' c',en = .returned (.tuple #[.agg #[.bool g2,.slice a n c,.slice a' n' c'],.int .i64 0])∧Mine W' W.heap.size a n c R∧Mine W' W.heap.size a' n' c' S)∧Below W.heap.size W W'))  :
  Calls Tryz.prog 12 #[.agg #[.bool g,.string s,.int .i64 x]] w fun en w'=>(∃ a n c a' n' c',en = .returned (.tuple #[.agg #[.bool g2,.slice a n c,.slice a' n' c'],.int .i64 0])∧Mine w' w.heap.size a n c R∧Mine w' w.heap.size a' n' c' S)∧Below w.heap.size w w':=by
 refine calls_sym Tryz.func12 rfl (by kernel_rfl) fun T hK=>?_
 replace hK:Kn T _ [(0,.agg #[.bool g,.string s,.int .i64 x])]:=hK
 have hS:=Fb.begin w
 have hG:GsAt [] w:=trivial
 refine wq hS hG hK (fun p1=>[.n 1 #[.bool g,.string s,.int .i64 x] 35,.n 2 #[.bool false,.slice none 0 0,.slice none 0 0] 41,.v 3 (.int .i64 0)]) (fun p1=>[(1,pT (p1 0).N 0),(2,pT (p1 1).N 0),(3,.int .i64 0)]) (fun p1=>?_) (fun p1 W1 T hF hK=>?_)
 ·iterate 2 refine okn ?_
  refine okv ?_
  exact ok_nil
 replace hS:=SymF.fc hS hF [1000,1001] [⟨(p1 0).N,#[.bool g,.string s,.int .i64 x],35,true⟩,⟨(p1 1).N,#[.bool false,.slice none 0 0,.slice none 0 0],41,true⟩]
 replace hG:=hF.gx
 clear hF
 refine wp_seq ?_
 refine wq hS hG hK (fun p2=>[.l 8 (.agg #[.bool g,.string s,.int .i64 x]) 0 0,.c (some 9) (cV (.int .i64 0)),.v 4 (.int .i64 0)]) (fun p2=>[(1,pT (p1 0).N 0),(2,pT (p1 1).N 0),(3,.int .i64 0),(4,.int .i64 0)]) (fun p2=>?_) (fun p2 W2 T hF hK=>?_)
 ·refine okl ?_
  refine okc (fun W cx=>as_v (unhide HC _)) ?_
  refine okv ?_
  exact ok_nil
 obtain ⟨hS,hG⟩:=SymF.fg hS hF
 clear hF
 refine wq hS hG hK (fun p3=>[.v 10 (.int .i64 0),.v 11 (.bool false)]) (fun p3=>[(1,pT (p1 0).N 0),(2,pT (p1 1).N 0),(3,.int .i64 0),(4,.int .i64 0),(11,.bool false)]) (fun p3=>?_) (fun p3 W3 T hF hK=>?_)
 ·iterate 2 refine okv ?_
  exact ok_nil
 obtain ⟨hS,hG⟩:=SymF.fg hS hF
 clear hF
 refine wp_cond_false (hK.ew 11) (wp_skip (then_n ?_))
 refine wq hS hG hK (fun p4=>[.n 5 #[.int .i64 0] 78]) (fun p4=>[(1,pT (p1 0).N 0),(2,pT (p1 1).N 0),(3,.int .i64 0),(4,.int .i64 0),(5,pT (p4 0).N 0),(11,.bool false)]) (fun p4=>?_) (fun p4 W4 T hF hK=>?_)
 ·refine okn ?_
  exact ok_nil
 replace hS:=SymF.fc hS hF [0,1,1000] [⟨(p1 0).N,#[.bool g,.string s,.int .i64 x],35,true⟩,⟨(p1 1).N,#[.bool false,.slice none 0 0,.slice none 0 0],41,true⟩,⟨(p4 0).N,#[.int .i64 0],78,true⟩]
 replace hG:=hF.gx
 clear hF
 refine wq hS hG hK (fun p5=>[.l 14 (.agg #[.bool g,.string s,.int .i64 x]) 0 0,.c (some 15) (cN W4.heap.size M),.v 16 (pT (p1 0).N 2),.l 17 (.int .i64 x) 0 2,.v 18 (.int .i64 (p:Int)),.c (some 19) (cO W4.heap.size A),.v 20 (.agg #[.slice (p5 5).A (p5 5).N (p5 5).C]),.v 21 (.int .i64 0),.u 22 (.agg #[.slice (p5 5).A (p5 5).N (p5 5).C]) (aG 1),.c (some 23) (cO W4.heap.size Q),.v 24 (.agg #[.slice (p5 9).A (p5 9).N (p5 9).C]),.v 25 (.int .i64 0),.u 26 (.agg #[.slice (p5 9).A (p5 9).N (p5 9).C]) (aG 1),.n 6 #[.slice none 0 0] 28,.p 1013 0 [.slice (p5 9).A (p5 9).N (p5 9).C]]) (fun p5=>[(1,pT (p1 0).N 0),(2,pT (p1 1).N 0),(3,.int .i64 0),(4,.int .i64 0),(5,pT (p4 0).N 0),(6,pT (p5 13).N 0),(11,.bool false)]) (fun p5=>?_) (fun p5 W5 T hF hK=>?_)
 ·refine okl ?_
  refine okc (fun W cx=>as_n cx.hb (unhide H1 _)) ?_
  refine okv ?_
  refine okl ?_
  refine okvi ((imax _ _).trans hp) ?_
  refine okc (fun W cx=>as_o cx.hb (unhide HA _)) ?_
  iterate 2 refine okv ?_
  refine oku (fun W cx=>runNat_z (p4 0).N 0 _ _ _ _ ⟨_,_,cx.B 2 _ rfl (by kernel_rfl) (by kernel_rfl),rfl⟩) ?_
  refine okc (fun W cx=>as_o cx.hb (unhide HQ _ _ _ (p5 1).C _ _ (p5 5).C (Mine.num (cx.F 1 (by kernel_rfl))) (Mine.num (cx.F 5 (by kernel_rfl))))) ?_
  iterate 2 refine okv ?_
  refine oku (fun W cx=>runNat_z (p4 0).N 0 _ _ _ _ ⟨_,_,cx.B 2 _ rfl (by kernel_rfl) (by kernel_rfl),rfl⟩) ?_
  refine okn ?_
  refine okp ?_
  exact ok_nil
 replace hS:=SymF.fc hS hF [0,1,2,1013] [⟨(p1 0).N,#[.bool g,.string s,.int .i64 x],35,true⟩,⟨(p1 1).N,#[.bool false,.slice none 0 0,.slice none 0 0],41,true⟩,⟨(p4 0).N,#[.int .i64 0],78,true⟩,⟨(p5 13).N,#[.slice (p5 9).A (p5 9).N (p5 9).C],28,true⟩]
 replace hG:GsAt (gM W4.heap.size (p5 1).A (p5 1).N (p5 1).C M :: gM W4.heap.size (p5 5).A (p5 5).N (p5 5).C A :: gM W4.heap.size (p5 9).A (p5 9).N (p5 9).C Q :: _) W5:=⟨hF.fx 1,hF.fx 5,hF.fx 9,hF.gx⟩
 clear hF
 refine wq hS hG hK (fun p6=>[.v 27 (pT (p1 0).N 2),.l 28 (.int .i64 x) 0 2,.v 29 (.int .i64 (-x)),.v 30 (.int .i64 (q:Int)),.c (some 31) (cO W5.heap.size B),.v 32 (.agg #[.slice (p6 4).A (p6 4).N (p6 4).C]),.v 33 (.int .i64 0),.u 34 (.agg #[.slice (p6 4).A (p6 4).N (p6 4).C]) (aG 1),.n 7 #[.slice none 0 0] 28,.p 1008 0 [.slice (p6 4).A (p6 4).N (p6 4).C]]) (fun p6=>[(1,pT (p1 0).N 0),(2,pT (p1 1).N 0),(3,.int .i64 0),(4,.int .i64 0),(5,pT (p4 0).N 0),(6,pT (p5 13).N 0),(7,pT (p6 8).N 0),(11,.bool false)]) (fun p6=>?_) (fun p6 W6 T hF hK=>?_)
 ·refine okv ?_
  refine okl ?_
  refine okvi ((wr64 (x:=0 - x) (by omega) (by omega)).trans (by omega)) ?_
  refine okvi ((imax _ _).trans hq) ?_
  refine okc (fun W cx=>as_o cx.hb (unhide HB _)) ?_
  iterate 2 refine okv ?_
  refine oku (fun W cx=>runNat_z (p4 0).N 0 _ _ _ _ ⟨_,_,cx.B 2 _ rfl (by kernel_rfl) (by kernel_rfl),rfl⟩) ?_
  refine okn ?_
  refine okp ?_
  exact ok_nil
 replace hS:=SymF.fc hS hF [0,1,2,3,1008] [⟨(p1 0).N,#[.bool g,.string s,.int .i64 x],35,true⟩,⟨(p1 1).N,#[.bool false,.slice none 0 0,.slice none 0 0],41,true⟩,⟨(p4 0).N,#[.int .i64 0],78,true⟩,⟨(p5 13).N,#[.slice (p5 9).A (p5 9).N (p5 9).C],28,true⟩,⟨(p6 8).N,#[.slice (p6 4).A (p6 4).N (p6 4).C],28,true⟩]
 replace hG:GsAt (gM W5.heap.size (p6 4).A (p6 4).N (p6 4).C B :: _) W6:=⟨hF.fx 4,hF.gx⟩
 clear hF
 refine wp_seq ?_
 refine wq hS hG hK (fun p7=>[.v 35 (pT (p4 0).N 0),.l 36 (.int .i64 0) 2 0,.v 37 (.bool false)]) (fun p7=>[(1,pT (p1 0).N 0),(2,pT (p1 1).N 0),(3,.int .i64 0),(4,.int .i64 0),(5,pT (p4 0).N 0),(6,pT (p5 13).N 0),(7,pT (p6 8).N 0),(11,.bool false),(37,.bool false)]) (fun p7=>?_) (fun p7 W7 T hF hK=>?_)
 ·refine okv ?_
  refine okl ?_
  refine okv ?_
  exact ok_nil
 obtain ⟨hS,hG⟩:=SymF.fg hS hF
 clear hF
 have z7:=hS.fr.size
 refine wp_cond_false (hK.ew 37) (wp_skip (then_n ?_))
 refine wq hS hG hK (fun p8=>[.v 41 (pT (p1 0).N 0),.l 42 (.bool g) 0 0,.l 43 (.agg #[.slice (p5 9).A (p5 9).N (p5 9).C]) 3 0,.l 44 (.agg #[.slice (p6 4).A (p6 4).N (p6 4).C]) 4 0,.c (some 45) (cH W7.heap.size R S fun x9 y9=>.tuple #[.agg #[.bool g2,x9,y9],.int .i64 0]),.v 46 (.agg #[.bool g2,.slice (p8 4).A (p8 4).N (p8 4).C,.slice (p8 4).A' (p8 4).N' (p8 4).C']),.v 47 (.int .i64 0),.p 1 0 [.bool g2,.slice (p8 4).A (p8 4).N (p8 4).C,.slice (p8 4).A' (p8 4).N' (p8 4).C'],.v 3 (.int .i64 0)]) (fun p8=>[(2,pT (p1 1).N 0),(3,.int .i64 0),(4,.int .i64 0),(5,pT (p4 0).N 0),(11,.bool false),(37,.bool false)]) (fun p8=>?_) (fun p8 W8 T hF hK=>?_)
 ·refine okv ?_
  iterate 3 refine okl ?_
  refine okc (fun W cx=>as_h cx.hb (unhide HM _ _ _ (p5 9).C _ _ (p6 4).C (Mine.num cx.G.2.2.2.1) (Mine.num cx.G.1))) ?_
  iterate 2 refine okv ?_
  refine okp ?_
  refine okv ?_
  exact ok_nil
 replace hS:=SymF.fc hS hF [1,2] [⟨(p1 1).N,#[.bool g2,.slice (p8 4).A (p8 4).N (p8 4).C,.slice (p8 4).A' (p8 4).N' (p8 4).C'],41,true⟩,⟨(p4 0).N,#[.int .i64 0],78,true⟩]
 replace hG:GsAt (gM W7.heap.size (p8 4).A (p8 4).N (p8 4).C R :: gM W7.heap.size (p8 4).A' (p8 4).N' (p8 4).C' S :: _) W8:=⟨And.left (hF.fx 4),And.right (hF.fx 4),hF.gx⟩
 clear hF
 refine wp_ret ?_
 exact sym_end hS hK (.tuple #[.agg #[.bool g2,.slice (p8 4).A (p8 4).N (p8 4).C,.slice (p8 4).A' (p8 4).N' (p8 4).C'],.int .i64 0]) [(0,0,3)] [.bool g2,.slice (p8 4).A (p8 4).N (p8 4).C,.slice (p8 4).A' (p8 4).N' (p8 4).C'] (by kernel_rfl) (by kernel_rfl) ⟨⟨_,_,_,_,_,_,rfl,Mine.mono hG.1 z7,Mine.mono hG.2.1 z7⟩,hS.fr⟩
end Go.Proofs.YteafdlblemdclaaGreatDoor
