/- Of what DecBackRow stands on: DcNamW DxW DcTxtW. -/
import Derived.Test.YtpmmapoabbpaiaaGreatPak
import Derived.Test.YtpmmapoabbpaiaaGreatPaz
import Derived.Test.YtpmmapoabbpaiaaGreatPaj
import Derived.Test.YtpmmapoabbpaiaaGreatPba
namespace Go.Proofs.YtpmmapoabbpaiaaGreat
open Go.RowKit
set_option maxHeartbeats 4000000
set_option maxRecDepth 20000
theorem sad_df (w:World) (s:ByteArray) (x:Int) (hz:s.size≠0) :
  Calls Tryz.prog 55 #[.agg #[.bool false,.string s,.int .i64 x]] w fun en w'=>en = .returned (.tuple #[.string ⟨#[]⟩,.string s])∧Below w.heap.size w w':=by
 refine calls_sym Tryz.func55 rfl (by kernel_rfl) fun T hK=>?_
 replace hK:Kn T _ [(0,.agg #[.bool false,.string s,.int .i64 x])]:=hK
 have hS:=Fb.begin w
 have hG:GsAt [] w:=trivial
 refine wq hS hG hK (fun p1=>[.n 1 #[.bool false,.string s,.int .i64 x] 23,.v 2 (.string { data:=#[] }),.v 3 (.string { data:=#[] })]) (fun p1=>[(1,pT (p1 0).N 0),(2,.string { data:=#[] }),(3,.string { data:=#[] })]) (fun p1=>?_) (fun p1 W1 T hF hK=>?_)
 ·refine okn ?_
  iterate 2 refine okv ?_
  exact ok_nil
 replace hS:=SymF.fc hS hF [1000] [⟨(p1 0).N,#[.bool false,.string s,.int .i64 x],23,true⟩]
 replace hG:=hF.gx
 clear hF
 refine wq hS hG hK (fun p2=>[.v 4 (pT (p1 0).N 1),.l 5 (.string s) 0 1,.v 3 (.string s)]) (fun p2=>[(1,pT (p1 0).N 0),(2,.string { data:=#[] }),(3,.string s)]) (fun p2=>?_) (fun p2 W2 T hF hK=>?_)
 ·refine okv ?_
  refine okl ?_
  refine okv ?_
  exact ok_nil
 obtain ⟨hS,hG⟩:=SymF.fg hS hF
 clear hF
 refine wp_seq ?_
 refine wq hS hG hK (fun p3=>[.l 6 (.agg #[.bool false,.string s,.int .i64 x]) 0 0,.c (some 7) (cV (.bool false))]) (fun p3=>[(1,pT (p1 0).N 0),(2,.string { data:=#[] }),(3,.string s),(7,.bool false)]) (fun p3=>?_) (fun p3 W3 T hF hK=>?_)
 ·refine okl ?_
  refine okc (fun W cx=>as_v (isN_f _ false s x hz)) ?_
  exact ok_nil
 obtain ⟨hS,hG⟩:=SymF.fg hS hF
 clear hF
 refine wp_cond_false (hK.ew 7) (wp_skip ?_)
 refine then_n (wp_seq ?_)
 refine wq hS hG hK (fun p4=>[.v 8 (pT (p1 0).N 0),.l 9 (.bool false) 0 0]) (fun p4=>[(2,.string { data:=#[] }),(3,.string s),(7,.bool false),(9,.bool false)]) (fun p4=>?_) (fun p4 W4 T hF hK=>?_)
 ·refine okv ?_
  refine okl ?_
  exact ok_nil
 replace hS:=SymF.fc hS hF [] []
 replace hG:=hF.gx
 clear hF
 refine wp_cond_false (hK.ew 9) (wp_skip (then_n ?_))
 refine wq hS hG hK (fun p5=>[.v 10 (.string { data:=#[] }),.v 11 (.string s),.v 2 (.string { data:=#[] }),.v 3 (.string s)]) (fun p5=>[(2,.string { data:=#[] }),(3,.string s),(7,.bool false),(9,.bool false)]) (fun p5=>?_) (fun p5 W5 T hF hK=>?_)
 ·iterate 4 refine okv ?_
  exact ok_nil
 obtain ⟨hS,hG⟩:=SymF.fg hS hF
 clear hF
 refine wp_ret ?_
 exact sym_end hS hK (.tuple #[.string ⟨#[]⟩,.string s]) [] [] (by kernel_rfl) (by kernel_rfl) ⟨rfl,hS.fr⟩
theorem drat_ok (w:World) (g:Bool) (s:ByteArray) (x:Int) (p q M A B Q R S:Nat) (g2:Bool) (hx0:-1073741824≤x) (hx1:x≤1073741824) (hp:max x 0 = (p:Int)) (hq:max (-x) 0 = (q:Int)) (HC:Hid (∀ W:World,Calls Tryz.prog 23 #[.agg #[.bool g,.string s,.int .i64 x]] W fun e W'=>e = .returned (.int .i64 0)∧Below W.heap.size W W')) (H1:Hid (∀ W:World,Calls Tryz.prog 26 #[.agg #[.bool g,.string s,.int .i64 x]] W fun en W'=>(∃ a n c,en = .returned (.agg #[.slice a n c])∧Mine W' W.heap.size a n c M)∧Below W.heap.size W W')) (HA:Hid (∀ W:World,Calls Tryz.prog 27 #[.int .u32 10,.int .i64 (p:Int)] W fun en W'=>(∃ a n c,en = .returned (.tuple #[.agg #[.slice a n c],.int .i64 0])∧Mine W' W.heap.size a n c A)∧Below W.heap.size W W')) (HB:Hid (∀ W:World,Calls Tryz.prog 27 #[.int .u32 10,.int .i64 (q:Int)] W fun en W'=>(∃ a n c,en = .returned (.tuple #[.agg #[.slice a n c],.int .i64 0])∧Mine W' W.heap.size a n c B)∧Below W.heap.size W W')) (HQ:Hid (∀ (W:World) (a:Option Addr) (n c:Nat) (a':Option Addr) (n' c':Nat),Num W a n M→Num W a' n' A→Calls Tryz.prog 25 #[.agg #[.slice a n c],.agg #[.slice a' n' c']] W fun en W'=>(∃ a n c,en = .returned (.tuple #[.agg #[.slice a n c],.int .i64 0])∧Mine W' W.heap.size a n c Q)∧Below W.heap.size W W')) (HM:Hid (∀ (W:World) (a:Option Addr) (n c:Nat) (a':Option Addr) (n' c':Nat),Num W a n Q→Num W a' n' B→Calls Tryz.prog 28 #[.bool g,.agg #[.slice a n c],.agg #[.slice a' n' c']] W fun en W'=>(∃ a n c a' n' c',en = .returned (.tuple #[.agg #[.bool g2,.slice a n c,.slice a' n' c'],.int .i64 0])∧Mine W' W.heap.size a n c R∧Mine W' W.heap.size a' n' c' S)∧Below W.heap.size W W'))  :
  Calls Tryz.prog 7 #[.agg #[.bool g,.string s,.int .i64 x]] w fun en w'=>(∃ a n c a' n' c',en = .returned (.tuple #[.agg #[.bool g2,.slice a n c,.slice a' n' c'],.int .i64 0])∧Mine w' w.heap.size a n c R∧Mine w' w.heap.size a' n' c' S)∧Below w.heap.size w w':=by
 refine calls_sym Tryz.func7 rfl (by kernel_rfl) fun T hK=>?_
 replace hK:Kn T _ [(0,.agg #[.bool g,.string s,.int .i64 x])]:=hK
 have hS:=Fb.begin w
 have hG:GsAt [] w:=trivial
 refine wq hS hG hK (fun p1=>[.n 1 #[.bool g,.string s,.int .i64 x] 23,.n 2 #[.bool false,.slice none 0 0,.slice none 0 0] 28,.v 3 (.int .i64 0)]) (fun p1=>[(1,pT (p1 0).N 0),(2,pT (p1 1).N 0),(3,.int .i64 0)]) (fun p1=>?_) (fun p1 W1 T hF hK=>?_)
 ·iterate 2 refine okn ?_
  refine okv ?_
  exact ok_nil
 replace hS:=SymF.fc hS hF [1000,1001] [⟨(p1 0).N,#[.bool g,.string s,.int .i64 x],23,true⟩,⟨(p1 1).N,#[.bool false,.slice none 0 0,.slice none 0 0],28,true⟩]
 replace hG:=hF.gx
 clear hF
 refine wp_seq ?_
 refine wq hS hG hK (fun p2=>[.l 8 (.agg #[.bool g,.string s,.int .i64 x]) 0 0,.c (some 9) (cV (.int .i64 0)),.v 4 (.int .i64 0)]) (fun p2=>[(1,pT (p1 0).N 0),(2,pT (p1 1).N 0),(3,.int .i64 0),(4,.int .i64 0)]) (fun p2=>?_) (fun p2 W2 T hF hK=>?_)
 ·refine okl ?_
  refine okc (fun W cx=>as_v (unhide HC _)) ?_
  refine okv ?_
  exact ok_nil
 obtain ⟨hS,hG⟩:=SymF.fg hS hF
 clear hF
 refine wq hS hG hK (fun p3=>[.v 10 (.int .i64 0),.v 11 (.bool false)]) (fun p3=>[(1,pT (p1 0).N 0),(2,pT (p1 1).N 0),(3,.int .i64 0),(4,.int .i64 0),(11,.bool false)]) (fun p3=>?_) (fun p3 W3 T hF hK=>?_)
 ·iterate 2 refine okv ?_
  exact ok_nil
 obtain ⟨hS,hG⟩:=SymF.fg hS hF
 clear hF
 refine wp_cond_false (hK.ew 11) (wp_skip (then_n ?_))
 refine wq hS hG hK (fun p4=>[.n 5 #[.int .i64 0] 58]) (fun p4=>[(1,pT (p1 0).N 0),(2,pT (p1 1).N 0),(3,.int .i64 0),(4,.int .i64 0),(5,pT (p4 0).N 0),(11,.bool false)]) (fun p4=>?_) (fun p4 W4 T hF hK=>?_)
 ·refine okn ?_
  exact ok_nil
 replace hS:=SymF.fc hS hF [0,1,1000] [⟨(p1 0).N,#[.bool g,.string s,.int .i64 x],23,true⟩,⟨(p1 1).N,#[.bool false,.slice none 0 0,.slice none 0 0],28,true⟩,⟨(p4 0).N,#[.int .i64 0],58,true⟩]
 replace hG:=hF.gx
 clear hF
 refine wq hS hG hK (fun p5=>[.l 14 (.agg #[.bool g,.string s,.int .i64 x]) 0 0,.c (some 15) (cN W4.heap.size M),.v 16 (pT (p1 0).N 2),.l 17 (.int .i64 x) 0 2,.v 18 (.int .i64 (p:Int)),.c (some 19) (cO W4.heap.size A),.v 20 (.agg #[.slice (p5 5).A (p5 5).N (p5 5).C]),.v 21 (.int .i64 0),.u 22 (.agg #[.slice (p5 5).A (p5 5).N (p5 5).C]) (aG 1),.c (some 23) (cO W4.heap.size Q),.v 24 (.agg #[.slice (p5 9).A (p5 9).N (p5 9).C]),.v 25 (.int .i64 0),.u 26 (.agg #[.slice (p5 9).A (p5 9).N (p5 9).C]) (aG 1),.n 6 #[.slice none 0 0] 26,.p 1013 0 [.slice (p5 9).A (p5 9).N (p5 9).C]]) (fun p5=>[(1,pT (p1 0).N 0),(2,pT (p1 1).N 0),(3,.int .i64 0),(4,.int .i64 0),(5,pT (p4 0).N 0),(6,pT (p5 13).N 0),(11,.bool false)]) (fun p5=>?_) (fun p5 W5 T hF hK=>?_)
 ·refine okl ?_
  refine okc (fun W cx=>as_n cx.hb (unhide H1 _)) ?_
  refine okv ?_
  refine okl ?_
  refine okvi ((imax _ _).trans hp) ?_
  refine okc (fun W cx=>as_o cx.hb (unhide HA _)) ?_
  iterate 2 refine okv ?_
  refine oku (fun W cx=>runNat_z (p4 0).N 0 _ _ _ _ ⟨_,_,cx.B 2 _ rfl (by kernel_rfl) (by kernel_rfl),rfl⟩) ?_
  refine okc (fun W cx=>as_o cx.hb (unhide HQ _ _ _ (p5 1).C _ _ (p5 5).C (Mine.num (cx.F 1 (by kernel_rfl))) (Mine.num (cx.F 5 (by kernel_rfl))))) ?_
  iterate 2 refine okv ?_
  refine oku (fun W cx=>runNat_z (p4 0).N 0 _ _ _ _ ⟨_,_,cx.B 2 _ rfl (by kernel_rfl) (by kernel_rfl),rfl⟩) ?_
  refine okn ?_
  refine okp ?_
  exact ok_nil
 replace hS:=SymF.fc hS hF [0,1,2,1013] [⟨(p1 0).N,#[.bool g,.string s,.int .i64 x],23,true⟩,⟨(p1 1).N,#[.bool false,.slice none 0 0,.slice none 0 0],28,true⟩,⟨(p4 0).N,#[.int .i64 0],58,true⟩,⟨(p5 13).N,#[.slice (p5 9).A (p5 9).N (p5 9).C],26,true⟩]
 replace hG:GsAt (gM W4.heap.size (p5 1).A (p5 1).N (p5 1).C M :: gM W4.heap.size (p5 5).A (p5 5).N (p5 5).C A :: gM W4.heap.size (p5 9).A (p5 9).N (p5 9).C Q :: _) W5:=⟨hF.fx 1,hF.fx 5,hF.fx 9,hF.gx⟩
 clear hF
 refine wq hS hG hK (fun p6=>[.v 27 (pT (p1 0).N 2),.l 28 (.int .i64 x) 0 2,.v 29 (.int .i64 (-x)),.v 30 (.int .i64 (q:Int)),.c (some 31) (cO W5.heap.size B),.v 32 (.agg #[.slice (p6 4).A (p6 4).N (p6 4).C]),.v 33 (.int .i64 0),.u 34 (.agg #[.slice (p6 4).A (p6 4).N (p6 4).C]) (aG 1),.n 7 #[.slice none 0 0] 26,.p 1008 0 [.slice (p6 4).A (p6 4).N (p6 4).C]]) (fun p6=>[(1,pT (p1 0).N 0),(2,pT (p1 1).N 0),(3,.int .i64 0),(4,.int .i64 0),(5,pT (p4 0).N 0),(6,pT (p5 13).N 0),(7,pT (p6 8).N 0),(11,.bool false)]) (fun p6=>?_) (fun p6 W6 T hF hK=>?_)
 ·refine okv ?_
  refine okl ?_
  refine okvi ((wr64 (x:=0 - x) (by omega) (by omega)).trans (by omega)) ?_
  refine okvi ((imax _ _).trans hq) ?_
  refine okc (fun W cx=>as_o cx.hb (unhide HB _)) ?_
  iterate 2 refine okv ?_
  refine oku (fun W cx=>runNat_z (p4 0).N 0 _ _ _ _ ⟨_,_,cx.B 2 _ rfl (by kernel_rfl) (by kernel_rfl),rfl⟩) ?_
  refine okn ?_
  refine okp ?_
  exact ok_nil
 replace hS:=SymF.fc hS hF [0,1,2,3,1008] [⟨(p1 0).N,#[.bool g,.string s,.int .i64 x],23,true⟩,⟨(p1 1).N,#[.bool false,.slice none 0 0,.slice none 0 0],28,true⟩,⟨(p4 0).N,#[.int .i64 0],58,true⟩,⟨(p5 13).N,#[.slice (p5 9).A (p5 9).N (p5 9).C],26,true⟩,⟨(p6 8).N,#[.slice (p6 4).A (p6 4).N (p6 4).C],26,true⟩]
 replace hG:GsAt (gM W5.heap.size (p6 4).A (p6 4).N (p6 4).C B :: _) W6:=⟨hF.fx 4,hF.gx⟩
 clear hF
 refine wp_seq ?_
 refine wq hS hG hK (fun p7=>[.v 35 (pT (p4 0).N 0),.l 36 (.int .i64 0) 2 0,.v 37 (.bool false)]) (fun p7=>[(1,pT (p1 0).N 0),(2,pT (p1 1).N 0),(3,.int .i64 0),(4,.int .i64 0),(5,pT (p4 0).N 0),(6,pT (p5 13).N 0),(7,pT (p6 8).N 0),(11,.bool false),(37,.bool false)]) (fun p7=>?_) (fun p7 W7 T hF hK=>?_)
 ·refine okv ?_
  refine okl ?_
  refine okv ?_
  exact ok_nil
 obtain ⟨hS,hG⟩:=SymF.fg hS hF
 clear hF
 have z7:=hS.fr.size
 refine wp_cond_false (hK.ew 37) (wp_skip (then_n ?_))
 refine wq hS hG hK (fun p8=>[.v 41 (pT (p1 0).N 0),.l 42 (.bool g) 0 0,.l 43 (.agg #[.slice (p5 9).A (p5 9).N (p5 9).C]) 3 0,.l 44 (.agg #[.slice (p6 4).A (p6 4).N (p6 4).C]) 4 0,.c (some 45) (cH W7.heap.size R S fun x9 y9=>.tuple #[.agg #[.bool g2,x9,y9],.int .i64 0]),.v 46 (.agg #[.bool g2,.slice (p8 4).A (p8 4).N (p8 4).C,.slice (p8 4).A' (p8 4).N' (p8 4).C']),.v 47 (.int .i64 0),.p 1 0 [.bool g2,.slice (p8 4).A (p8 4).N (p8 4).C,.slice (p8 4).A' (p8 4).N' (p8 4).C'],.v 3 (.int .i64 0)]) (fun p8=>[(2,pT (p1 1).N 0),(3,.int .i64 0),(4,.int .i64 0),(5,pT (p4 0).N 0),(11,.bool false),(37,.bool false)]) (fun p8=>?_) (fun p8 W8 T hF hK=>?_)
 ·refine okv ?_
  iterate 3 refine okl ?_
  refine okc (fun W cx=>as_h cx.hb (unhide HM _ _ _ (p5 9).C _ _ (p6 4).C (Mine.num cx.G.2.2.2.1) (Mine.num cx.G.1))) ?_
  iterate 2 refine okv ?_
  refine okp ?_
  refine okv ?_
  exact ok_nil
 replace hS:=SymF.fc hS hF [1,2] [⟨(p1 1).N,#[.bool g2,.slice (p8 4).A (p8 4).N (p8 4).C,.slice (p8 4).A' (p8 4).N' (p8 4).C'],28,true⟩,⟨(p4 0).N,#[.int .i64 0],58,true⟩]
 replace hG:GsAt (gM W7.heap.size (p8 4).A (p8 4).N (p8 4).C R :: gM W7.heap.size (p8 4).A' (p8 4).N' (p8 4).C' S :: _) W8:=⟨And.left (hF.fx 4),And.right (hF.fx 4),hF.gx⟩
 clear hF
 refine wp_ret ?_
 exact sym_end hS hK (.tuple #[.agg #[.bool g2,.slice (p8 4).A (p8 4).N (p8 4).C,.slice (p8 4).A' (p8 4).N' (p8 4).C'],.int .i64 0]) [(0,0,3)] [.bool g2,.slice (p8 4).A (p8 4).N (p8 4).C,.slice (p8 4).A' (p8 4).N' (p8 4).C'] (by kernel_rfl) (by kernel_rfl) ⟨⟨_,_,_,_,_,_,rfl,Mine.mono hG.1 z7,Mine.mono hG.2.1 z7⟩,hS.fr⟩
theorem ld_any (w:World) (g:Bool) (s:ByteArray) (x:Int)  :
  Calls Tryz.prog 17 #[.bool g,.string s,.int .i64 x] w fun en w'=>en = .returned (.agg #[.bool g,.string s,.int .i64 x])∧Below w.heap.size w w':=by
 refine calls_sym Tryz.func17 rfl (by kernel_rfl) fun T hK=>?_
 replace hK:Kn T _ [(0,.bool g),(1,.string s),(2,.int .i64 x)]:=hK
 have hS:=Fb.begin w
 have hG:GsAt [] w:=trivial
 refine wq hS hG hK (fun p1=>[.n 6 #[.bool false,.string ⟨#[]⟩,.int .i64 0] 23]) (fun p1=>[(0,.bool g),(1,.string s),(2,.int .i64 x),(6,pT (p1 0).N 0)]) (fun p1=>?_) (fun p1 W1 T hF hK=>?_)
 ·refine okn ?_
  exact ok_nil
 replace hS:=SymF.fc hS hF [1000] [⟨(p1 0).N,#[.bool false,.string ⟨#[]⟩,.int .i64 0],23,true⟩]
 replace hG:=hF.gx
 clear hF
 refine wq hS hG hK (fun p2=>[.v 7 (.bool g),.v 8 (.string s),.v 9 (.int .i64 x),.v 10 (.agg #[.bool g,.string s,.int .i64 x]),.p 0 0 [.bool g,.string s,.int .i64 x]]) (fun p2=>[(6,pT (p1 0).N 0)]) (fun p2=>?_) (fun p2 W2 T hF hK=>?_)
 ·iterate 4 refine okv ?_
  refine okp ?_
  exact ok_nil
 replace hS:=SymF.fc hS hF [0] [⟨(p1 0).N,#[.bool g,.string s,.int .i64 x],23,true⟩]
 replace hG:=hF.gx
 clear hF
 refine wp_ret ?_
 exact sym_end hS hK (.agg #[.bool g,.string s,.int .i64 x]) [(0,0,3)] [.bool g,.string s,.int .i64 x] (by kernel_rfl) (by kernel_rfl) ⟨rfl,hS.fr⟩
theorem alive_law (w:World)  (H1:Hid (∀ W:World,Calls Tryz.prog 10 #[.agg #[.bool false,.string ⟨#[57,53]⟩,.int .i64 (-1)],.agg #[.bool false,.string ⟨#[53]⟩,.int .i64 (-1)]] W fun e W'=>e = .returned (.tuple #[.agg #[.bool false,.string ⟨#[49]⟩,.int .i64 1],.int .i64 0])∧Below W.heap.size W W')) (H2:Hid (∀ W:World,Calls Tryz.prog 11 #[.agg #[.bool false,.string ⟨#[50,53]⟩,.int .i64 0],.agg #[.bool true,.string ⟨#[52]⟩,.int .i64 0]] W fun e W'=>e = .returned (.tuple #[.agg #[.bool true,.string ⟨#[49]⟩,.int .i64 2],.int .i64 0])∧Below W.heap.size W W')) (H3:Hid (∀ W:World,Calls Tryz.prog 19 #[.agg #[.bool false,.string ⟨#[49,51,53]⟩,.int .i64 0],.int .i64 2,.int .u8 0] W fun e W'=>e = .returned (.tuple #[.agg #[.bool false,.string ⟨#[49,52]⟩,.int .i64 1],.bool false,.int .i64 0])∧Below W.heap.size W W')) (H4:Hid (∀ W:World,Calls Tryz.prog 20 #[.agg #[.bool true,.string ⟨#[49]⟩,.int .i64 (-9)],.int .i64 3,.int .u8 4] W fun e W'=>e = .returned (.tuple #[.agg #[.bool true,.string ⟨#[49]⟩,.int .i64 (-3)],.bool false,.int .i64 0])∧Below W.heap.size W W')) (H5:Hid (∀ W:World,Calls Tryz.prog 21 #[.agg #[.bool false,.string ⟨#[49,50,53]⟩,.int .i64 (-1)]] W fun e W'=>e = .returned (.tuple #[.string ⟨#[49,50,46,53]⟩,.int .i64 0])∧Below W.heap.size W W')) (HR:Hid (∀ W:World,Calls Tryz.prog 7 #[.agg #[.bool false,.string ⟨#[53]⟩,.int .i64 (-1)]] W fun en W'=>(∃ a n c a' n' c',en = .returned (.tuple #[.agg #[.bool false,.slice a n c,.slice a' n' c'],.int .i64 0])∧Mine W' W.heap.size a n c 1∧Mine W' W.heap.size a' n' c' 2)∧Below W.heap.size W W')) (HL:Hid (∀ (W:World) (a:Option Addr) (n c:Nat),Num W a n 2→Calls Tryz.prog 22 #[.agg #[.slice a n c]] W fun en W'=>en = .returned (.tuple #[.int .u64 2,.bool true])∧Below W.heap.size W W')) :
  Calls Tryz.prog 5 #[] w fun en w'=>en = .returned (.bool true)∧Below w.heap.size w w':=by
 refine calls_sym Tryz.func5 rfl (by kernel_rfl) fun T hK=>?_
 replace hK:Kn T _ []:=hK
 have hS:=Fb.begin w
 have hG:GsAt [] w:=trivial
 refine wq hS hG hK (fun p1=>[.v 0 (.bool false)]) (fun p1=>[(0,.bool false)]) (fun p1=>?_) (fun p1 W1 T hF hK=>?_)
 ·refine okv ?_
  exact ok_nil
 replace hS:=SymF.fc hS hF [] []
 replace hG:=hF.gx
 clear hF
 refine wq hS hG hK (fun p2=>[.c (some 11) (cV (.agg #[.bool false,.string ⟨#[57,53]⟩,.int .i64 (-1)])),.c (some 12) (cV (.agg #[.bool false,.string ⟨#[53]⟩,.int .i64 (-1)])),.c (some 13) (cV (.tuple #[.agg #[.bool false,.string ⟨#[49]⟩,.int .i64 1],.int .i64 0])),.v 14 (.agg #[.bool false,.string ⟨#[49]⟩,.int .i64 1]),.v 15 (.int .i64 0),.c (some 16) (cV (.agg #[.bool false,.string ⟨#[49]⟩,.int .i64 1,.bool false,.int .i64 0])),.c (some 17) (cV (.agg #[.bool false,.string ⟨#[49]⟩,.int .i64 1])),.v 18 (.agg #[.bool false,.string ⟨#[49]⟩,.int .i64 1,.bool false,.int .i64 0]),.v 19 (.bool true),.v 1 (.bool true)]) (fun p2=>[(0,.bool false),(1,.bool true)]) (fun p2=>?_) (fun p2 W2 T hF hK=>?_)
 ·refine okc (fun W cx=>as_v (ld_any _ false (⟨#[57,53]⟩) (-1))) ?_
  refine okc (fun W cx=>as_v (ld_any _ false (⟨#[53]⟩) (-1))) ?_
  refine okc (fun W cx=>as_v (unhide H1 _)) ?_
  iterate 2 refine okv ?_
  refine okc (fun W cx=>as_v (two_any _ false (⟨#[49]⟩) 1 0)) ?_
  refine okc (fun W cx=>as_v (ld_any _ false (⟨#[49]⟩) 1)) ?_
  iterate 3 refine okv ?_
  exact ok_nil
 obtain ⟨hS,hG⟩:=SymF.fg hS hF
 clear hF
 refine wq hS hG hK (fun p3=>[.c (some 20) (cV (.agg #[.bool false,.string ⟨#[50,53]⟩,.int .i64 0])),.c (some 21) (cV (.agg #[.bool true,.string ⟨#[52]⟩,.int .i64 0])),.c (some 22) (cV (.tuple #[.agg #[.bool true,.string ⟨#[49]⟩,.int .i64 2],.int .i64 0])),.v 23 (.agg #[.bool true,.string ⟨#[49]⟩,.int .i64 2]),.v 24 (.int .i64 0),.c (some 25) (cV (.agg #[.bool true,.string ⟨#[49]⟩,.int .i64 2,.bool false,.int .i64 0])),.c (some 26) (cV (.agg #[.bool true,.string ⟨#[49]⟩,.int .i64 2])),.v 27 (.agg #[.bool true,.string ⟨#[49]⟩,.int .i64 2,.bool false,.int .i64 0]),.v 28 (.bool true),.v 2 (.bool true)]) (fun p3=>[(0,.bool false),(1,.bool true),(2,.bool true)]) (fun p3=>?_) (fun p3 W3 T hF hK=>?_)
 ·refine okc (fun W cx=>as_v (ld_any _ false (⟨#[50,53]⟩) 0)) ?_
  refine okc (fun W cx=>as_v (ld_any _ true (⟨#[52]⟩) 0)) ?_
  refine okc (fun W cx=>as_v (unhide H2 _)) ?_
  iterate 2 refine okv ?_
  refine okc (fun W cx=>as_v (two_any _ true (⟨#[49]⟩) 2 0)) ?_
  refine okc (fun W cx=>as_v (ld_any _ true (⟨#[49]⟩) 2)) ?_
  iterate 3 refine okv ?_
  exact ok_nil
 obtain ⟨hS,hG⟩:=SymF.fg hS hF
 clear hF
 refine wq hS hG hK (fun p4=>[.c (some 29) (cV (.agg #[.bool false,.string ⟨#[49,51,53]⟩,.int .i64 0])),.c (some 30) (cV (.tuple #[.agg #[.bool false,.string ⟨#[49,52]⟩,.int .i64 1],.bool false,.int .i64 0])),.v 31 (.agg #[.bool false,.string ⟨#[49,52]⟩,.int .i64 1]),.v 32 (.bool false),.v 33 (.int .i64 0),.c (some 34) (cV (.agg #[.bool false,.string ⟨#[49,52]⟩,.int .i64 1,.bool false,.int .i64 0])),.c (some 35) (cV (.agg #[.bool false,.string ⟨#[49,52]⟩,.int .i64 1])),.v 36 (.agg #[.bool false,.string ⟨#[49,52]⟩,.int .i64 1,.bool false,.int .i64 0]),.v 37 (.bool true),.v 3 (.bool true)]) (fun p4=>[(0,.bool false),(1,.bool true),(2,.bool true),(3,.bool true)]) (fun p4=>?_) (fun p4 W4 T hF hK=>?_)
 ·refine okc (fun W cx=>as_v (ld_any _ false (⟨#[49,51,53]⟩) 0)) ?_
  refine okc (fun W cx=>as_v (unhide H3 _)) ?_
  iterate 3 refine okv ?_
  refine okc (fun W cx=>as_v (three_any _ false (⟨#[49,52]⟩) 1 false 0)) ?_
  refine okc (fun W cx=>as_v (ld_any _ false (⟨#[49,52]⟩) 1)) ?_
  iterate 3 refine okv ?_
  exact ok_nil
 obtain ⟨hS,hG⟩:=SymF.fg hS hF
 clear hF
 refine wq hS hG hK (fun p5=>[.c (some 38) (cV (.agg #[.bool true,.string ⟨#[49]⟩,.int .i64 (-9)])),.c (some 39) (cV (.tuple #[.agg #[.bool true,.string ⟨#[49]⟩,.int .i64 (-3)],.bool false,.int .i64 0])),.v 40 (.agg #[.bool true,.string ⟨#[49]⟩,.int .i64 (-3)]),.v 41 (.bool false),.v 42 (.int .i64 0),.c (some 43) (cV (.agg #[.bool true,.string ⟨#[49]⟩,.int .i64 (-3),.bool false,.int .i64 0])),.c (some 44) (cV (.agg #[.bool true,.string ⟨#[49]⟩,.int .i64 (-3)])),.v 45 (.agg #[.bool true,.string ⟨#[49]⟩,.int .i64 (-3),.bool false,.int .i64 0]),.v 46 (.bool true),.v 4 (.bool true)]) (fun p5=>[(0,.bool false),(1,.bool true),(2,.bool true),(3,.bool true),(4,.bool true)]) (fun p5=>?_) (fun p5 W5 T hF hK=>?_)
 ·refine okc (fun W cx=>as_v (ld_any _ true (⟨#[49]⟩) (-9))) ?_
  refine okc (fun W cx=>as_v (unhide H4 _)) ?_
  iterate 3 refine okv ?_
  refine okc (fun W cx=>as_v (three_any _ true (⟨#[49]⟩) (-3) false 0)) ?_
  refine okc (fun W cx=>as_v (ld_any _ true (⟨#[49]⟩) (-3))) ?_
  iterate 3 refine okv ?_
  exact ok_nil
 obtain ⟨hS,hG⟩:=SymF.fg hS hF
 clear hF
 refine wq hS hG hK (fun p6=>[.c (some 48) (cV (.agg #[.bool false,.string ⟨#[49,50,53]⟩,.int .i64 (-1)])),.c (some 49) (cV (.tuple #[.string ⟨#[49,50,46,53]⟩,.int .i64 0])),.v 47 (.tuple #[.string ⟨#[49,50,46,53]⟩,.int .i64 0]),.v 50 (.string ⟨#[49,50,46,53]⟩),.v 51 (.int .i64 0),.v 5 (.string ⟨#[49,50,46,53]⟩),.v 6 (.int .i64 0)]) (fun p6=>[(0,.bool false),(1,.bool true),(2,.bool true),(3,.bool true),(4,.bool true),(5,.string ⟨#[49,50,46,53]⟩),(6,.int .i64 0)]) (fun p6=>?_) (fun p6 W6 T hF hK=>?_)
 ·refine okc (fun W cx=>as_v (ld_any _ false (⟨#[49,50,53]⟩) (-1))) ?_
  refine okc (fun W cx=>as_v (unhide H5 _)) ?_
  iterate 5 refine okv ?_
  exact ok_nil
 obtain ⟨hS,hG⟩:=SymF.fg hS hF
 clear hF
 refine wq hS hG hK (fun p7=>[.c (some 53) (cV (.agg #[.bool false,.string ⟨#[53]⟩,.int .i64 (-1)])),.c (some 54) (cH W6.heap.size 1 2 fun x9 y9=>.tuple #[.agg #[.bool false,x9,y9],.int .i64 0]),.v 52 (.tuple #[.agg #[.bool false,.slice (p7 1).A (p7 1).N (p7 1).C,.slice (p7 1).A' (p7 1).N' (p7 1).C'],.int .i64 0]),.v 55 (.agg #[.bool false,.slice (p7 1).A (p7 1).N (p7 1).C,.slice (p7 1).A' (p7 1).N' (p7 1).C']),.v 56 (.int .i64 0),.n 7 #[.bool false,.slice none 0 0,.slice none 0 0] 28,.p 1005 0 [.bool false,.slice (p7 1).A (p7 1).N (p7 1).C,.slice (p7 1).A' (p7 1).N' (p7 1).C'],.v 8 (.int .i64 0)]) (fun p7=>[(0,.bool false),(1,.bool true),(2,.bool true),(3,.bool true),(4,.bool true),(5,.string ⟨#[49,50,46,53]⟩),(6,.int .i64 0),(7,pT (p7 5).N 0),(8,.int .i64 0)]) (fun p7=>?_) (fun p7 W7 T hF hK=>?_)
 ·refine okc (fun W cx=>as_v (ld_any _ false (⟨#[53]⟩) (-1))) ?_
  refine okc (fun W cx=>as_h cx.hb (unhide HR _)) ?_
  iterate 3 refine okv ?_
  refine okn ?_
  refine okp ?_
  refine okv ?_
  exact ok_nil
 replace hS:=SymF.fc hS hF [1005] [⟨(p7 5).N,#[.bool false,.slice (p7 1).A (p7 1).N (p7 1).C,.slice (p7 1).A' (p7 1).N' (p7 1).C'],28,true⟩]
 replace hG:GsAt (gM W6.heap.size (p7 1).A (p7 1).N (p7 1).C 1 :: gM W6.heap.size (p7 1).A' (p7 1).N' (p7 1).C' 2 :: _) W7:=⟨And.left (hF.fx 1),And.right (hF.fx 1),hF.gx⟩
 clear hF
 refine wq hS hG hK (fun p8=>[.v 58 (pT (p7 5).N 2),.l 59 (.agg #[.slice (p7 1).A' (p7 1).N' (p7 1).C']) 0 2,.c (some 60) (cV (.tuple #[.int .u64 2,.bool true])),.v 57 (.tuple #[.int .u64 2,.bool true]),.v 61 (.int .u64 2),.v 62 (.bool true),.v 9 (.int .u64 2),.v 10 (.bool true)]) (fun p8=>[(0,.bool false),(1,.bool true),(2,.bool true),(3,.bool true),(4,.bool true),(5,.string ⟨#[49,50,46,53]⟩),(6,.int .i64 0),(8,.int .i64 0),(9,.int .u64 2),(10,.bool true)]) (fun p8=>?_) (fun p8 W8 T hF hK=>?_)
 ·refine okv ?_
  refine okl ?_
  refine okc (fun W cx=>as_v (unhide HL _ _ _ (p7 1).C' (Mine.num cx.G.2.1))) ?_
  iterate 5 refine okv ?_
  exact ok_nil
 replace hS:=SymF.fc hS hF [] []
 replace hG:=hF.gx
 clear hF
 refine wq hS hG hK (fun p9=>[.v 63 (.bool true),.v 64 (.bool true),.v 65 (.bool true),.v 66 (.bool true),.v 67 (.bool true),.v 68 (.bool true),.v 69 (.bool true),.v 70 (.bool true),.v 71 (.bool true),.v 72 (.bool true),.v 73 (.bool true),.v 74 (.string ⟨#[49,50,46,53]⟩),.v 75 (.bool true),.v 76 (.bool true),.v 77 (.bool true),.v 78 (.int .i64 0),.v 79 (.bool true),.v 80 (.bool true),.v 81 (.bool true),.v 82 (.int .i64 0),.v 83 (.bool true),.v 84 (.bool true),.v 85 (.bool true),.v 86 (.int .u64 2),.v 87 (.bool true),.v 88 (.bool true),.v 89 (.bool true),.v 90 (.bool true),.v 91 (.bool true),.v 0 (.bool true)]) (fun p9=>[(0,.bool true)]) (fun p9=>?_) (fun p9 W9 T hF hK=>?_)
 ·iterate 30 refine okv ?_
  exact ok_nil
 obtain ⟨hS,hG⟩:=SymF.fg hS hF
 clear hF
 refine wp_ret ?_
 exact sym_end hS hK (.bool true) [] [] (by kernel_rfl) (by kernel_rfl) ⟨rfl,hS.fr⟩
theorem cl8_e (w:World) (g:Bool) (s:ByteArray) (x:Int) (e1:Int) (he:e1≠0) (HC:Hid (∀ W:World,Calls Tryz.prog 23 #[.agg #[.bool g,.string s,.int .i64 x]] W fun e W'=>e = .returned (.int .i64 e1)∧Below W.heap.size W W'))  :
  Calls Tryz.prog 6 #[.agg #[.bool g,.string s,.int .i64 x],.int .i64 800,.int .i64 1500] w fun en w'=>en = .returned (.bool false)∧Below w.heap.size w w':=by
 refine calls_sym Tryz.func6 rfl (by kernel_rfl) fun T hK=>?_
 replace hK:Kn T _ [(0,.agg #[.bool g,.string s,.int .i64 x]),(1,.int .i64 800),(2,.int .i64 1500)]:=hK
 have hS:=Fb.begin w
 have hG:GsAt [] w:=trivial
 refine wq hS hG hK (fun p1=>[.n 3 #[.bool g,.string s,.int .i64 x] 23,.v 6 (.bool false)]) (fun p1=>[(1,.int .i64 800),(2,.int .i64 1500),(3,pT (p1 0).N 0),(6,.bool false)]) (fun p1=>?_) (fun p1 W1 T hF hK=>?_)
 ·refine okn ?_
  refine okv ?_
  exact ok_nil
 replace hS:=SymF.fc hS hF [1000] [⟨(p1 0).N,#[.bool g,.string s,.int .i64 x],23,true⟩]
 replace hG:=hF.gx
 clear hF
 refine wq hS hG hK (fun p2=>[.l 7 (.agg #[.bool g,.string s,.int .i64 x]) 0 0,.c (some 8) (cV (.int .i64 e1)),.v 9 (.bool false),.v 10 (.bool false),.k (some 11),.k (some 12),.k (some 13),.k (some 14),.k (some 15),.v 16 (.bool false),.v 17 (.bool false),.k (some 18),.k (some 19),.k (some 20),.k (some 21),.v 22 (.bool false),.v 23 (.bool false),.k (some 24),.k (some 25),.k (some 26),.k (some 27),.k (some 28),.v 29 (.bool false),.v 6 (.bool false)]) (fun p2=>[(6,.bool false)]) (fun p2=>?_) (fun p2 W2 T hF hK=>?_)
 ·refine okl ?_
  refine okc (fun W cx=>as_v (unhide HC _)) ?_
  refine okvb (beq_false_of_ne he) ?_
  refine okv ?_
  iterate 5 refine okk ?_
  iterate 2 refine okv ?_
  iterate 4 refine okk ?_
  iterate 2 refine okv ?_
  iterate 5 refine okk ?_
  iterate 2 refine okv ?_
  exact ok_nil
 obtain ⟨hS,hG⟩:=SymF.fg hS hF
 clear hF
 refine wp_ret ?_
 exact sym_end hS hK (.bool false) [] [] (by kernel_rfl) (by kernel_rfl) ⟨rfl,hS.fr⟩
theorem cl8_1 (w:World) (g:Bool) (s:ByteArray) (x:Int) (h1:800 < s.size) (HC:Hid (∀ W:World,Calls Tryz.prog 23 #[.agg #[.bool g,.string s,.int .i64 x]] W fun e W'=>e = .returned (.int .i64 0)∧Below W.heap.size W W'))  :
  Calls Tryz.prog 6 #[.agg #[.bool g,.string s,.int .i64 x],.int .i64 800,.int .i64 1500] w fun en w'=>en = .returned (.bool false)∧Below w.heap.size w w':=by
 refine calls_sym Tryz.func6 rfl (by kernel_rfl) fun T hK=>?_
 replace hK:Kn T _ [(0,.agg #[.bool g,.string s,.int .i64 x]),(1,.int .i64 800),(2,.int .i64 1500)]:=hK
 have hS:=Fb.begin w
 have hG:GsAt [] w:=trivial
 refine wq hS hG hK (fun p1=>[.n 3 #[.bool g,.string s,.int .i64 x] 23,.v 6 (.bool false)]) (fun p1=>[(1,.int .i64 800),(2,.int .i64 1500),(3,pT (p1 0).N 0),(6,.bool false)]) (fun p1=>?_) (fun p1 W1 T hF hK=>?_)
 ·refine okn ?_
  refine okv ?_
  exact ok_nil
 replace hS:=SymF.fc hS hF [1000] [⟨(p1 0).N,#[.bool g,.string s,.int .i64 x],23,true⟩]
 replace hG:=hF.gx
 clear hF
 refine wq hS hG hK (fun p2=>[.l 7 (.agg #[.bool g,.string s,.int .i64 x]) 0 0,.c (some 8) (cV (.int .i64 0)),.v 9 (.bool true),.v 10 (.bool true),.v 11 (pT (p1 0).N 1),.l 12 (.string s) 0 1,.v 13 (.int .i64 (s.size:Int)),.v 14 (.int .i64 800),.v 15 (.bool false),.v 16 (.bool false),.v 17 (.bool false),.k (some 18),.k (some 19),.k (some 20),.k (some 21),.v 22 (.bool false),.v 23 (.bool false),.k (some 24),.k (some 25),.k (some 26),.k (some 27),.k (some 28),.v 29 (.bool false),.v 6 (.bool false)]) (fun p2=>[(6,.bool false)]) (fun p2=>?_) (fun p2 W2 T hF hK=>?_)
 ·refine okl ?_
  refine okc (fun W cx=>as_v (unhide HC _)) ?_
  iterate 3 refine okv ?_
  refine okl ?_
  iterate 2 refine okv ?_
  refine okvb (decide_eq_false (show ¬ (s.size:Int)≤800 by omega)) ?_
  iterate 2 refine okv ?_
  iterate 4 refine okk ?_
  iterate 2 refine okv ?_
  iterate 5 refine okk ?_
  iterate 2 refine okv ?_
  exact ok_nil
 obtain ⟨hS,hG⟩:=SymF.fg hS hF
 clear hF
 refine wp_ret ?_
 exact sym_end hS hK (.bool false) [] [] (by kernel_rfl) (by kernel_rfl) ⟨rfl,hS.fr⟩
theorem cl8_2 (w:World) (g:Bool) (s:ByteArray) (x:Int) (h1:s.size≤800) (h2:1500 < x) (HC:Hid (∀ W:World,Calls Tryz.prog 23 #[.agg #[.bool g,.string s,.int .i64 x]] W fun e W'=>e = .returned (.int .i64 0)∧Below W.heap.size W W'))  :
  Calls Tryz.prog 6 #[.agg #[.bool g,.string s,.int .i64 x],.int .i64 800,.int .i64 1500] w fun en w'=>en = .returned (.bool false)∧Below w.heap.size w w':=by
 refine calls_sym Tryz.func6 rfl (by kernel_rfl) fun T hK=>?_
 replace hK:Kn T _ [(0,.agg #[.bool g,.string s,.int .i64 x]),(1,.int .i64 800),(2,.int .i64 1500)]:=hK
 have hS:=Fb.begin w
 have hG:GsAt [] w:=trivial
 refine wq hS hG hK (fun p1=>[.n 3 #[.bool g,.string s,.int .i64 x] 23,.v 6 (.bool false)]) (fun p1=>[(1,.int .i64 800),(2,.int .i64 1500),(3,pT (p1 0).N 0),(6,.bool false)]) (fun p1=>?_) (fun p1 W1 T hF hK=>?_)
 ·refine okn ?_
  refine okv ?_
  exact ok_nil
 replace hS:=SymF.fc hS hF [1000] [⟨(p1 0).N,#[.bool g,.string s,.int .i64 x],23,true⟩]
 replace hG:=hF.gx
 clear hF
 refine wq hS hG hK (fun p2=>[.l 7 (.agg #[.bool g,.string s,.int .i64 x]) 0 0,.c (some 8) (cV (.int .i64 0)),.v 9 (.bool true),.v 10 (.bool true),.v 11 (pT (p1 0).N 1),.l 12 (.string s) 0 1,.v 13 (.int .i64 (s.size:Int)),.v 14 (.int .i64 800),.v 15 (.bool true),.v 16 (.bool true),.v 17 (.bool true),.v 18 (pT (p1 0).N 2),.l 19 (.int .i64 x) 0 2,.v 20 (.int .i64 1500),.v 21 (.bool false),.v 22 (.bool false),.v 23 (.bool false),.k (some 24),.k (some 25),.k (some 26),.k (some 27),.k (some 28),.v 29 (.bool false),.v 6 (.bool false)]) (fun p2=>[(6,.bool false)]) (fun p2=>?_) (fun p2 W2 T hF hK=>?_)
 ·refine okl ?_
  refine okc (fun W cx=>as_v (unhide HC _)) ?_
  iterate 3 refine okv ?_
  refine okl ?_
  iterate 2 refine okv ?_
  refine okvb (decide_eq_true (show (s.size:Int)≤800 by omega)) ?_
  iterate 3 refine okv ?_
  refine okl ?_
  refine okv ?_
  refine okvb (decide_eq_false (show ¬ x≤1500 by omega)) ?_
  iterate 2 refine okv ?_
  iterate 5 refine okk ?_
  iterate 2 refine okv ?_
  exact ok_nil
 obtain ⟨hS,hG⟩:=SymF.fg hS hF
 clear hF
 refine wp_ret ?_
 exact sym_end hS hK (.bool false) [] [] (by kernel_rfl) (by kernel_rfl) ⟨rfl,hS.fr⟩
theorem cl8_3 (w:World) (g:Bool) (s:ByteArray) (x:Int) (h1:s.size≤800) (h2:x≤1500) (h3:x < -1500) (HC:Hid (∀ W:World,Calls Tryz.prog 23 #[.agg #[.bool g,.string s,.int .i64 x]] W fun e W'=>e = .returned (.int .i64 0)∧Below W.heap.size W W'))  :
  Calls Tryz.prog 6 #[.agg #[.bool g,.string s,.int .i64 x],.int .i64 800,.int .i64 1500] w fun en w'=>en = .returned (.bool false)∧Below w.heap.size w w':=by
 refine calls_sym Tryz.func6 rfl (by kernel_rfl) fun T hK=>?_
 replace hK:Kn T _ [(0,.agg #[.bool g,.string s,.int .i64 x]),(1,.int .i64 800),(2,.int .i64 1500)]:=hK
 have hS:=Fb.begin w
 have hG:GsAt [] w:=trivial
 refine wq hS hG hK (fun p1=>[.n 3 #[.bool g,.string s,.int .i64 x] 23,.v 6 (.bool false)]) (fun p1=>[(1,.int .i64 800),(2,.int .i64 1500),(3,pT (p1 0).N 0),(6,.bool false)]) (fun p1=>?_) (fun p1 W1 T hF hK=>?_)
 ·refine okn ?_
  refine okv ?_
  exact ok_nil
 replace hS:=SymF.fc hS hF [1000] [⟨(p1 0).N,#[.bool g,.string s,.int .i64 x],23,true⟩]
 replace hG:=hF.gx
 clear hF
 refine wq hS hG hK (fun p2=>[.l 7 (.agg #[.bool g,.string s,.int .i64 x]) 0 0,.c (some 8) (cV (.int .i64 0)),.v 9 (.bool true),.v 10 (.bool true),.v 11 (pT (p1 0).N 1),.l 12 (.string s) 0 1,.v 13 (.int .i64 (s.size:Int)),.v 14 (.int .i64 800),.v 15 (.bool true),.v 16 (.bool true),.v 17 (.bool true),.v 18 (pT (p1 0).N 2),.l 19 (.int .i64 x) 0 2,.v 20 (.int .i64 1500),.v 21 (.bool true),.v 22 (.bool true),.v 23 (.bool true),.v 24 (pT (p1 0).N 2),.l 25 (.int .i64 x) 0 2,.v 26 (.int .i64 1500),.v 27 (.int .i64 (-1500)),.v 28 (.bool false),.v 29 (.bool false),.v 6 (.bool false)]) (fun p2=>[(6,.bool false)]) (fun p2=>?_) (fun p2 W2 T hF hK=>?_)
 ·refine okl ?_
  refine okc (fun W cx=>as_v (unhide HC _)) ?_
  iterate 3 refine okv ?_
  refine okl ?_
  iterate 2 refine okv ?_
  refine okvb (decide_eq_true (show (s.size:Int)≤800 by omega)) ?_
  iterate 3 refine okv ?_
  refine okl ?_
  refine okv ?_
  refine okvb (decide_eq_true (show x≤1500 by omega)) ?_
  iterate 3 refine okv ?_
  refine okl ?_
  iterate 2 refine okv ?_
  refine okvb (decide_eq_false (show ¬ x ≥ -1500 by omega)) ?_
  iterate 2 refine okv ?_
  exact ok_nil
 obtain ⟨hS,hG⟩:=SymF.fg hS hF
 clear hF
 refine wp_ret ?_
 exact sym_end hS hK (.bool false) [] [] (by kernel_rfl) (by kernel_rfl) ⟨rfl,hS.fr⟩
theorem cl8_ok (w:World) (g:Bool) (s:ByteArray) (x:Int) (h1:s.size≤800) (h2:x≤1500) (h3:-1500≤x) (HC:Hid (∀ W:World,Calls Tryz.prog 23 #[.agg #[.bool g,.string s,.int .i64 x]] W fun e W'=>e = .returned (.int .i64 0)∧Below W.heap.size W W'))  :
  Calls Tryz.prog 6 #[.agg #[.bool g,.string s,.int .i64 x],.int .i64 800,.int .i64 1500] w fun en w'=>en = .returned (.bool true)∧Below w.heap.size w w':=by
 refine calls_sym Tryz.func6 rfl (by kernel_rfl) fun T hK=>?_
 replace hK:Kn T _ [(0,.agg #[.bool g,.string s,.int .i64 x]),(1,.int .i64 800),(2,.int .i64 1500)]:=hK
 have hS:=Fb.begin w
 have hG:GsAt [] w:=trivial
 refine wq hS hG hK (fun p1=>[.n 3 #[.bool g,.string s,.int .i64 x] 23,.v 6 (.bool false)]) (fun p1=>[(1,.int .i64 800),(2,.int .i64 1500),(3,pT (p1 0).N 0),(6,.bool false)]) (fun p1=>?_) (fun p1 W1 T hF hK=>?_)
 ·refine okn ?_
  refine okv ?_
  exact ok_nil
 replace hS:=SymF.fc hS hF [1000] [⟨(p1 0).N,#[.bool g,.string s,.int .i64 x],23,true⟩]
 replace hG:=hF.gx
 clear hF
 refine wq hS hG hK (fun p2=>[.l 7 (.agg #[.bool g,.string s,.int .i64 x]) 0 0,.c (some 8) (cV (.int .i64 0)),.v 9 (.bool true),.v 10 (.bool true),.v 11 (pT (p1 0).N 1),.l 12 (.string s) 0 1,.v 13 (.int .i64 (s.size:Int)),.v 14 (.int .i64 800),.v 15 (.bool true),.v 16 (.bool true),.v 17 (.bool true),.v 18 (pT (p1 0).N 2),.l 19 (.int .i64 x) 0 2,.v 20 (.int .i64 1500),.v 21 (.bool true),.v 22 (.bool true),.v 23 (.bool true),.v 24 (pT (p1 0).N 2),.l 25 (.int .i64 x) 0 2,.v 26 (.int .i64 1500),.v 27 (.int .i64 (-1500)),.v 28 (.bool true),.v 29 (.bool true),.v 6 (.bool true)]) (fun p2=>[(6,.bool true)]) (fun p2=>?_) (fun p2 W2 T hF hK=>?_)
 ·refine okl ?_
  refine okc (fun W cx=>as_v (unhide HC _)) ?_
  iterate 3 refine okv ?_
  refine okl ?_
  iterate 2 refine okv ?_
  refine okvb (decide_eq_true (show (s.size:Int)≤800 by omega)) ?_
  iterate 3 refine okv ?_
  refine okl ?_
  refine okv ?_
  refine okvb (decide_eq_true (show x≤1500 by omega)) ?_
  iterate 3 refine okv ?_
  refine okl ?_
  iterate 2 refine okv ?_
  refine okvb (decide_eq_true (show x ≥ -1500 by omega)) ?_
  iterate 2 refine okv ?_
  exact ok_nil
 obtain ⟨hS,hG⟩:=SymF.fg hS hF
 clear hF
 refine wp_ret ?_
 exact sym_end hS hK (.bool true) [] [] (by kernel_rfl) (by kernel_rfl) ⟨rfl,hS.fr⟩
theorem dnum_no (w:World) (g:Bool) (s:ByteArray) (x:Int) (HP:Hid (∀ W:World,Calls Tryz.prog 66 #[.string s] W fun e W'=>e = .returned (.tuple #[.agg #[.slice none 0 0],.int .i64 0,.int .i64 12])∧Below W.heap.size W W')) :
  Calls Tryz.prog 26 #[.agg #[.bool g,.string s,.int .i64 x]] w fun en w'=>en = .returned (.agg #[.slice none 0 0])∧Below w.heap.size w w':=by
 refine calls_sym Tryz.func26 rfl (by kernel_rfl) fun T hK=>?_
 replace hK:Kn T _ [(0,.agg #[.bool g,.string s,.int .i64 x])]:=hK
 have hS:=Fb.begin w
 have hG:GsAt [] w:=trivial
 refine wq hS hG hK (fun p1=>[.n 1 #[.bool g,.string s,.int .i64 x] 23,.n 2 #[.slice none 0 0] 26]) (fun p1=>[(1,pT (p1 0).N 0),(2,pT (p1 1).N 0)]) (fun p1=>?_) (fun p1 W1 T hF hK=>?_)
 ·iterate 2 refine okn ?_
  exact ok_nil
 replace hS:=SymF.fc hS hF [1000,1001] [⟨(p1 0).N,#[.bool g,.string s,.int .i64 x],23,true⟩,⟨(p1 1).N,#[.slice none 0 0],26,true⟩]
 replace hG:=hF.gx
 clear hF
 refine wq hS hG hK (fun p2=>[.v 7 (pT (p1 0).N 1),.l 8 (.string s) 0 1,.c (some 9) (cV (.tuple #[.agg #[.slice none 0 0],.int .i64 0,.int .i64 12])),.v 6 (.tuple #[.agg #[.slice none 0 0],.int .i64 0,.int .i64 12]),.v 10 (.agg #[.slice none 0 0]),.v 11 (.int .i64 0),.v 12 (.int .i64 12),.n 3 #[.slice none 0 0] 26,.p 1007 0 [.slice none 0 0],.v 4 (.int .i64 0),.v 5 (.int .i64 12)]) (fun p2=>[(2,pT (p1 1).N 0),(3,pT (p2 7).N 0)]) (fun p2=>?_) (fun p2 W2 T hF hK=>?_)
 ·refine okv ?_
  refine okl ?_
  refine okc (fun W cx=>as_v (unhide HP _)) ?_
  iterate 4 refine okv ?_
  refine okn ?_
  refine okp ?_
  iterate 2 refine okv ?_
  exact ok_nil
 replace hS:=SymF.fc hS hF [1,1007] [⟨(p1 1).N,#[.slice none 0 0],26,true⟩,⟨(p2 7).N,#[.slice none 0 0],26,true⟩]
 replace hG:=hF.gx
 clear hF
 refine wq hS hG hK (fun p3=>[.l 13 (.agg #[.slice none 0 0]) 1 0,.p 0 0 [.slice none 0 0]]) (fun p3=>[(2,pT (p1 1).N 0)]) (fun p3=>?_) (fun p3 W3 T hF hK=>?_)
 ·refine okl ?_
  refine okp ?_
  exact ok_nil
 replace hS:=SymF.fc hS hF [0] [⟨(p1 1).N,#[.slice none 0 0],26,true⟩]
 replace hG:=hF.gx
 clear hF
 refine wp_ret ?_
 exact sym_end hS hK (.agg #[.slice none 0 0]) [(0,0,1)] [.slice none 0 0] (by kernel_rfl) (by kernel_rfl) ⟨rfl,hS.fr⟩
theorem dsm_t (w:World) (s:Bool) (a1 a2 a3 a4:Option Addr) (n1 n2 n3 n4 c1 c2 c3 c4 m d:Nat) (h1:Num w a1 n1 m) (h2:Num w a2 n2 d) (h3:Num w a3 n3 m) (h4:Num w a4 n4 d) (H1:Hid (∀ W:World,Num W a1 n1 m→Num W a3 n3 m→Calls Tryz.prog 34 #[.agg #[.slice a1 n1 c1],.agg #[.slice a3 n3 c3]] W fun e W'=>e = .returned (.bool true)∧Below W.heap.size W W')) (H2:Hid (∀ W:World,Num W a2 n2 d→Num W a4 n4 d→Calls Tryz.prog 34 #[.agg #[.slice a2 n2 c2],.agg #[.slice a4 n4 c4]] W fun e W'=>e = .returned (.bool true)∧Below W.heap.size W W'))  :
  Calls Tryz.prog 9 #[.agg #[.bool s,.slice a1 n1 c1,.slice a2 n2 c2],.agg #[.bool s,.slice a3 n3 c3,.slice a4 n4 c4]] w fun en w'=>en = .returned (.bool true)∧Below w.heap.size w w':=by
 refine calls_sym Tryz.func9 rfl (by kernel_rfl) fun T hK=>?_
 replace hK:Kn T _ [(0,.agg #[.bool s,.slice a1 n1 c1,.slice a2 n2 c2]),(1,.agg #[.bool s,.slice a3 n3 c3,.slice a4 n4 c4])]:=hK
 have hS:=Fb.begin w
 have hG:GsAt [gN a1 n1 m,gN a2 n2 d,gN a3 n3 m,gN a4 n4 d] w:=⟨h1,h2,h3,h4,trivial⟩
 refine wq hS hG hK (fun p1=>[.n 2 #[.bool s,.slice a1 n1 c1,.slice a2 n2 c2] 28,.n 3 #[.bool s,.slice a3 n3 c3,.slice a4 n4 c4] 28,.v 4 (.bool false)]) (fun p1=>[(2,pT (p1 0).N 0),(3,pT (p1 1).N 0),(4,.bool false)]) (fun p1=>?_) (fun p1 W1 T hF hK=>?_)
 ·iterate 2 refine okn ?_
  refine okv ?_
  exact ok_nil
 replace hS:=SymF.fc hS hF [1000,1001] [⟨(p1 0).N,#[.bool s,.slice a1 n1 c1,.slice a2 n2 c2],28,true⟩,⟨(p1 1).N,#[.bool s,.slice a3 n3 c3,.slice a4 n4 c4],28,true⟩]
 replace hG:=hF.gx
 clear hF
 refine wq hS hG hK (fun p2=>[.v 5 (pT (p1 0).N 0),.l 6 (.bool s) 0 0,.v 7 (pT (p1 1).N 0),.l 8 (.bool s) 1 0,.v 9 (.bool true),.v 10 (.bool true),.v 11 (pT (p1 0).N 1),.l 12 (.agg #[.slice a1 n1 c1]) 0 1,.v 13 (pT (p1 1).N 1),.l 14 (.agg #[.slice a3 n3 c3]) 1 1,.c (some 15) (cV (.bool true)),.v 16 (.bool true),.v 17 (.bool true),.v 18 (pT (p1 0).N 2),.l 19 (.agg #[.slice a2 n2 c2]) 0 2,.v 20 (pT (p1 1).N 2),.l 21 (.agg #[.slice a4 n4 c4]) 1 2,.c (some 22) (cV (.bool true)),.v 23 (.bool true),.v 4 (.bool true)]) (fun p2=>[(4,.bool true)]) (fun p2=>?_) (fun p2 W2 T hF hK=>?_)
 ·refine okv ?_
  refine okl ?_
  refine okv ?_
  refine okl ?_
  refine okvb (beq_self_eq_true s) ?_
  iterate 2 refine okv ?_
  refine okl ?_
  refine okv ?_
  refine okl ?_
  refine okc (fun W cx=>as_v (unhide H1 _ (cx.G.1) (cx.G.2.2.1))) ?_
  iterate 3 refine okv ?_
  refine okl ?_
  refine okv ?_
  refine okl ?_
  refine okc (fun W cx=>as_v (unhide H2 _ (cx.G.2.1) (cx.G.2.2.2.1))) ?_
  iterate 2 refine okv ?_
  exact ok_nil
 obtain ⟨hS,hG⟩:=SymF.fg hS hF
 clear hF
 refine wp_ret ?_
 exact sym_end hS hK (.bool true) [] [] (by kernel_rfl) (by kernel_rfl) ⟨rfl,hS.fr⟩
end Go.Proofs.YtpmmapoabbpaiaaGreat
