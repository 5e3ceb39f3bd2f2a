/- Of what RatioBackRow stands on: RbScl. -/
import Derived.Test.YtcfccblpcngeaaaGreatPbe
import Derived.Test.YtcfccblpcngeaaaGreatPah
namespace Go.Proofs.YtcfccblpcngeaaaGreat
open Go.RowKit
set_option maxHeartbeats 2000000
set_option maxRecDepth 20000
theorem zclone (a:Option Addr) (n c m:Nat) (w:World) (h:Num w a n m):Calls Tryz.prog 43 #[.slice a n c] w fun e w'=>(∃ a' n' c',e = .returned (.slice a' n' c')∧Mine w' w.heap.size a' n' c' m)∧Below w.heap.size w w':=
 (clone_any a n c m w h).mono fun _ _ ⟨⟨a',c',h1,h2⟩,hb⟩=>⟨⟨a',n,c',h1,h2⟩,hb⟩
theorem zscl_p (w:World) (s:Bool) (a b:Option Addr) (n c k l x y:Nat) (g:Bool) (be q bl L pw z dn:Nat) (h1:Num w a n x) (h2:Num w b k y) (hq0:0 < q) (hq1:q≤60) (hqL:(if (L:Int) < (q:Int) then (L:Int) else (q:Int)) = (q:Int)) (hLu:IntKind.u64.wrap (L:Int) = (L:Int)) (hqi:IntKind.i64.wrap (q:Int) = (q:Int)) (hdv:script Tryz.prog 0 (binOp .quo 3 (.int .i64 524288) (.int .i64 (bl:Int))) [] = some (.int .i64 (L:Int),[])) (HL:Hid (∀ W:World,Calls Tryz.prog 50 #[.int .u32 (be:Int)] W fun e W'=>e = .returned (.int .i64 (bl:Int))∧Below W.heap.size W W')) (HP:Hid (∀ W:World,Calls Tryz.prog 51 #[.int .u32 (be:Int),.int .i64 (q:Int)] W fun en W'=>(∃ a n c,en = .returned (.tuple #[.agg #[.slice a n c],.int .i64 0])∧Mine W' W.heap.size a n c pw)∧Below W.heap.size W W')) (HO:Hid (BSum 28 s false x y pw 1 z dn g))  :
  Calls Tryz.prog 26 #[.agg #[.bool s,.slice a n c,.slice b k l],.int .u32 (be:Int),.int .u64 (q:Int),.func (.func 28) #[] #[]] w fun en w'=>(∃ A N C A' N' C',en = .returned (.tuple #[.agg #[.bool g,.slice A N C,.slice A' N' C'],.int .i64 0])∧Mine w' w.heap.size A N C z∧Mine w' w.heap.size A' N' C' dn)∧Below w.heap.size w w':=by
 refine calls_sym Tryz.func26 rfl (by kernel_rfl) fun T hK=>?_
 replace hK:Kn T _ [(0,.agg #[.bool s,.slice a n c,.slice b k l]),(1,.int .u32 (be:Int)),(2,.int .u64 (q:Int)),(3,.func (.func 28) #[] #[])]:=hK
 have hS:=Fb.begin w
 have hG:GsAt [gN a n x,gN b k y] w:=⟨h1,h2,trivial⟩
 refine wq hS hG hK (fun p1=>[.n 4 #[.bool s,.slice a n c,.slice b k l] 30,.n 8 #[.bool false,.slice none 0 0,.slice none 0 0] 30,.v 9 (.int .i64 0)]) (fun p1=>[(1,.int .u32 (be:Int)),(2,.int .u64 (q:Int)),(3,.func (.func 28) #[] #[]),(4,pT (p1 0).N 0),(8,pT (p1 1).N 0),(9,.int .i64 0)]) (fun p1=>?_) (fun p1 W1 T hF hK=>?_)
 ·iterate 2 refine okn ?_
  refine okv ?_
  exact ok_nil
 replace hS:=SymF.fc hS hF [1000,1001] [⟨(p1 0).N,#[.bool s,.slice a n c,.slice b k l],30,true⟩,⟨(p1 1).N,#[.bool false,.slice none 0 0,.slice none 0 0],30,true⟩]
 replace hG:=hF.gx
 clear hF
 refine wp_seq ?_
 refine wq hS hG hK (fun p2=>[.v 14 (.int .u64 (q:Int)),.v 15 (.bool false)]) (fun p2=>[(1,.int .u32 (be:Int)),(2,.int .u64 (q:Int)),(3,.func (.func 28) #[] #[]),(4,pT (p1 0).N 0),(8,pT (p1 1).N 0),(9,.int .i64 0),(15,.bool false)]) (fun p2=>?_) (fun p2 W2 T hF hK=>?_)
 ·refine okv ?_
  refine okvb (decide_eq_false (show ¬ (q:Int) ≥ 1048576 by omega)) ?_
  exact ok_nil
 obtain ⟨hS,hG⟩:=SymF.fg hS hF
 clear hF
 refine wp_cond_false (hK.ew 15) (wp_skip (then_n ?_))
 refine wq hS hG hK (fun p3=>[.v 17 (.int .u32 (be:Int)),.c (some 18) (cV (.int .i64 (bl:Int))),.v 19 (.int .i64 (L:Int)),.v 20 (.int .u64 (L:Int)),.v 10 (.int .u64 (L:Int))]) (fun p3=>[(1,.int .u32 (be:Int)),(2,.int .u64 (q:Int)),(3,.func (.func 28) #[] #[]),(4,pT (p1 0).N 0),(8,pT (p1 1).N 0),(9,.int .i64 0),(10,.int .u64 (L:Int))]) (fun p3=>?_) (fun p3 W3 T hF hK=>?_)
 ·refine okv ?_
  refine okc (fun W cx=>as_v (unhide HL _)) ?_
  refine ok_vr (hdv) (by kernel_rfl) ?_
  refine okvi (hLu) ?_
  refine okv ?_
  exact ok_nil
 obtain ⟨hS,hG⟩:=SymF.fg hS hF
 clear hF
 refine wp_seq (wp_block (wp_loop_rounds 2 ?_))
 refine rounds_s (wp_seq ?_)
 refine wq hS hG hK (fun p4=>[.v 21 (.int .u64 (q:Int)),.v 22 (.bool true)]) (fun p4=>[(1,.int .u32 (be:Int)),(2,.int .u64 (q:Int)),(3,.func (.func 28) #[] #[]),(4,pT (p1 0).N 0),(8,pT (p1 1).N 0),(9,.int .i64 0),(10,.int .u64 (L:Int)),(22,.bool true)]) (fun p4=>?_) (fun p4 W4 T hF hK=>?_)
 ·refine okv ?_
  refine okvb (decide_eq_true (show (q:Int) > 0 by omega)) ?_
  exact ok_nil
 obtain ⟨hS,hG⟩:=SymF.fg hS hF
 clear hF
 refine wp_cond_true (hK.ew 22) (wp_skip ?_)
 refine then_n (wp_block ?_)
 refine wq hS hG hK (fun p5=>[.v 23 (.int .u64 (q:Int)),.v 24 (.int .u64 (L:Int)),.v 25 (.int .u64 (q:Int)),.v 11 (.int .u64 (q:Int))]) (fun p5=>[(1,.int .u32 (be:Int)),(2,.int .u64 (q:Int)),(3,.func (.func 28) #[] #[]),(4,pT (p1 0).N 0),(8,pT (p1 1).N 0),(9,.int .i64 0),(10,.int .u64 (L:Int)),(11,.int .u64 (q:Int))]) (fun p5=>?_) (fun p5 W5 T hF hK=>?_)
 ·iterate 2 refine okv ?_
  refine okvi (hqL) ?_
  refine okv ?_
  exact ok_nil
 obtain ⟨hS,hG⟩:=SymF.fg hS hF
 clear hF
 refine wq hS hG hK (fun p6=>[.v 26 (.int .u64 (q:Int)),.v 27 (.int .u64 (q:Int)),.v 28 (.int .u64 0),.v 2 (.int .u64 0)]) (fun p6=>[(1,.int .u32 (be:Int)),(2,.int .u64 0),(3,.func (.func 28) #[] #[]),(4,pT (p1 0).N 0),(8,pT (p1 1).N 0),(9,.int .i64 0),(10,.int .u64 (L:Int)),(11,.int .u64 (q:Int))]) (fun p6=>?_) (fun p6 W6 T hF hK=>?_)
 ·iterate 2 refine okv ?_
  refine okvi ((show IntKind.u64.wrap ((q:Int) - (q:Int)) = 0 by rw [Int.sub_self]; rfl)) ?_
  refine okv ?_
  exact ok_nil
 obtain ⟨hS,hG⟩:=SymF.fg hS hF
 clear hF
 refine wq hS hG hK (fun p7=>[.v 30 (.int .u32 (be:Int)),.v 31 (.int .u64 (q:Int)),.v 32 (.int .i64 (q:Int)),.c (some 33) (cO W6.heap.size pw),.v 29 (.tuple #[.agg #[.slice (p7 3).A (p7 3).N (p7 3).C],.int .i64 0]),.v 34 (.agg #[.slice (p7 3).A (p7 3).N (p7 3).C]),.v 35 (.int .i64 0),.n 12 #[.slice none 0 0] 28,.p 1007 0 [.slice (p7 3).A (p7 3).N (p7 3).C],.v 13 (.int .i64 0)]) (fun p7=>[(1,.int .u32 (be:Int)),(2,.int .u64 0),(3,.func (.func 28) #[] #[]),(4,pT (p1 0).N 0),(8,pT (p1 1).N 0),(9,.int .i64 0),(10,.int .u64 (L:Int)),(11,.int .u64 (q:Int)),(12,pT (p7 7).N 0),(13,.int .i64 0)]) (fun p7=>?_) (fun p7 W7 T hF hK=>?_)
 ·iterate 2 refine okv ?_
  refine okvi (hqi) ?_
  refine okc (fun W cx=>as_o cx.hb (unhide HP _)) ?_
  iterate 3 refine okv ?_
  refine okn ?_
  refine okp ?_
  refine okv ?_
  exact ok_nil
 replace hS:=SymF.fc hS hF [0,1,1007] [⟨(p1 0).N,#[.bool s,.slice a n c,.slice b k l],30,true⟩,⟨(p1 1).N,#[.bool false,.slice none 0 0,.slice none 0 0],30,true⟩,⟨(p7 7).N,#[.slice (p7 3).A (p7 3).N (p7 3).C],28,true⟩]
 replace hG:GsAt (gM W6.heap.size (p7 3).A (p7 3).N (p7 3).C pw :: _) W7:=⟨hF.fx 3,hF.gx⟩
 clear hF
 refine wp_seq ?_
 refine wq hS hG hK (fun p8=>[.v 36 (.int .i64 0),.v 37 (.bool false)]) (fun p8=>[(1,.int .u32 (be:Int)),(2,.int .u64 0),(3,.func (.func 28) #[] #[]),(4,pT (p1 0).N 0),(8,pT (p1 1).N 0),(9,.int .i64 0),(10,.int .u64 (L:Int)),(11,.int .u64 (q:Int)),(12,pT (p7 7).N 0),(13,.int .i64 0),(37,.bool false)]) (fun p8=>?_) (fun p8 W8 T hF hK=>?_)
 ·iterate 2 refine okv ?_
  exact ok_nil
 obtain ⟨hS,hG⟩:=SymF.fg hS hF
 clear hF
 have z8:=hS.fr.size
 refine wp_cond_false (hK.ew 37) (wp_skip (then_n ?_))
 refine wq hS hG hK (fun p9=>[.v 41 (.func (.func 28) #[] #[]),.l 42 (.agg #[.bool s,.slice a n c,.slice b k l]) 0 0,.l 43 (.agg #[.slice (p7 3).A (p7 3).N (p7 3).C]) 2 0,.c (some 44) (cN W8.heap.size 1),.v 45 (.agg #[.bool false,.slice (p7 3).A (p7 3).N (p7 3).C,.slice (p9 3).A (p9 3).N (p9 3).C]),.v 46 (.agg #[.bool s,.slice a n c,.slice b k l,.bool false,.slice (p7 3).A (p7 3).N (p7 3).C,.slice (p9 3).A (p9 3).N (p9 3).C]),.c (some 47) (cH W8.heap.size z dn fun x9 y9=>.tuple #[.agg #[.bool g,x9,y9],.int .i64 0]),.v 40 (.tuple #[.agg #[.bool g,.slice (p9 6).A (p9 6).N (p9 6).C,.slice (p9 6).A' (p9 6).N' (p9 6).C'],.int .i64 0]),.v 48 (.agg #[.bool g,.slice (p9 6).A (p9 6).N (p9 6).C,.slice (p9 6).A' (p9 6).N' (p9 6).C']),.v 49 (.int .i64 0),.p 0 0 [.bool g,.slice (p9 6).A (p9 6).N (p9 6).C,.slice (p9 6).A' (p9 6).N' (p9 6).C'],.v 13 (.int .i64 0)]) (fun p9=>[(1,.int .u32 (be:Int)),(2,.int .u64 0),(3,.func (.func 28) #[] #[]),(4,pT (p1 0).N 0),(8,pT (p1 1).N 0),(9,.int .i64 0),(10,.int .u64 (L:Int)),(11,.int .u64 (q:Int)),(12,pT (p7 7).N 0),(13,.int .i64 0)]) (fun p9=>?_) (fun p9 W9 T hF hK=>?_)
 ·refine okv ?_
  iterate 2 refine okl ?_
  refine okc (fun W cx=>as_n cx.hb (of_any 1 _ (by decide))) ?_
  iterate 2 refine okv ?_
  refine okc (fun W cx=>as_h cx.hb (unhide HO _ _ _ c _ _ l _ _ (p7 3).C _ _ (p9 3).C (cx.G.2.1) (cx.G.2.2.1) (Mine.num cx.G.1) (Mine.num (cx.F 3 (by kernel_rfl))))) ?_
  iterate 3 refine okv ?_
  refine okp ?_
  refine okv ?_
  exact ok_nil
 replace hS:=SymF.fc hS hF [0,1,2] [⟨(p1 0).N,#[.bool g,.slice (p9 6).A (p9 6).N (p9 6).C,.slice (p9 6).A' (p9 6).N' (p9 6).C'],30,true⟩,⟨(p1 1).N,#[.bool false,.slice none 0 0,.slice none 0 0],30,true⟩,⟨(p7 7).N,#[.slice (p7 3).A (p7 3).N (p7 3).C],28,true⟩]
 replace hG:GsAt (gM W8.heap.size (p9 3).A (p9 3).N (p9 3).C 1 :: gM W8.heap.size (p9 6).A (p9 6).N (p9 6).C z :: gM W8.heap.size (p9 6).A' (p9 6).N' (p9 6).C' dn :: _) W9:=⟨hF.fx 3,And.left (hF.fx 6),And.right (hF.fx 6),hF.gx⟩
 clear hF
 refine wq hS hG hK (fun p10=>[.v 50 (.int .i64 0),.v 51 (.bool false)]) (fun p10=>[(1,.int .u32 (be:Int)),(2,.int .u64 0),(3,.func (.func 28) #[] #[]),(4,pT (p1 0).N 0),(8,pT (p1 1).N 0),(9,.int .i64 0),(10,.int .u64 (L:Int)),(11,.int .u64 (q:Int)),(12,pT (p7 7).N 0),(13,.int .i64 0),(51,.bool false)]) (fun p10=>?_) (fun p10 W10 T hF hK=>?_)
 ·iterate 2 refine okv ?_
  exact ok_nil
 obtain ⟨hS,hG⟩:=SymF.fg hS hF
 clear hF
 refine wp_cond_false (hK.ew 51) (wp_skip ?_)
 refine inb_n (then_n ?_)
 refine rounds_s (wp_seq ?_)
 refine wq hS hG hK (fun p11=>[.v 21 (.int .u64 0),.v 22 (.bool false)]) (fun p11=>[(1,.int .u32 (be:Int)),(2,.int .u64 0),(3,.func (.func 28) #[] #[]),(4,pT (p1 0).N 0),(8,pT (p1 1).N 0),(9,.int .i64 0),(10,.int .u64 (L:Int)),(11,.int .u64 (q:Int)),(12,pT (p7 7).N 0),(13,.int .i64 0),(22,.bool false)]) (fun p11=>?_) (fun p11 W11 T hF hK=>?_)
 ·iterate 2 refine okv ?_
  exact ok_nil
 obtain ⟨hS,hG⟩:=SymF.fg hS hF
 clear hF
 refine wp_cond_false (hK.ew 22) (wp_exit ?_)
 refine then_x (then_x ?_)
 refine inb_x (then_n ?_)
 refine wq hS hG hK (fun p12=>[.l 54 (.agg #[.bool g,.slice (p9 6).A (p9 6).N (p9 6).C,.slice (p9 6).A' (p9 6).N' (p9 6).C']) 0 0,.p 1 0 [.bool g,.slice (p9 6).A (p9 6).N (p9 6).C,.slice (p9 6).A' (p9 6).N' (p9 6).C'],.v 9 (.int .i64 0)]) (fun p12=>[(8,pT (p1 1).N 0),(9,.int .i64 0),(13,.int .i64 0)]) (fun p12=>?_) (fun p12 W12 T hF hK=>?_)
 ·refine okl ?_
  refine okp ?_
  refine okv ?_
  exact ok_nil
 replace hS:=SymF.fc hS hF [1] [⟨(p1 1).N,#[.bool g,.slice (p9 6).A (p9 6).N (p9 6).C,.slice (p9 6).A' (p9 6).N' (p9 6).C'],30,true⟩]
 replace hG:=hF.gx
 clear hF
 refine wp_ret ?_
 exact sym_end hS hK (.tuple #[.agg #[.bool g,.slice (p9 6).A (p9 6).N (p9 6).C,.slice (p9 6).A' (p9 6).N' (p9 6).C'],.int .i64 0]) [(0,0,3)] [.bool g,.slice (p9 6).A (p9 6).N (p9 6).C,.slice (p9 6).A' (p9 6).N' (p9 6).C'] (by kernel_rfl) (by kernel_rfl) ⟨⟨_,_,_,_,_,_,rfl,Mine.mono hG.2.1 z8,Mine.mono hG.2.2.1 z8⟩,hS.fr⟩
theorem zscl_m (w:World) (s:Bool) (a b:Option Addr) (n c k l x y:Nat) (g:Bool) (be q bl L pw z dn:Nat) (h1:Num w a n x) (h2:Num w b k y) (hq0:0 < q) (hq1:q≤60) (hqL:(if (L:Int) < (q:Int) then (L:Int) else (q:Int)) = (q:Int)) (hLu:IntKind.u64.wrap (L:Int) = (L:Int)) (hqi:IntKind.i64.wrap (q:Int) = (q:Int)) (hdv:script Tryz.prog 0 (binOp .quo 3 (.int .i64 524288) (.int .i64 (bl:Int))) [] = some (.int .i64 (L:Int),[])) (HL:Hid (∀ W:World,Calls Tryz.prog 50 #[.int .u32 (be:Int)] W fun e W'=>e = .returned (.int .i64 (bl:Int))∧Below W.heap.size W W')) (HP:Hid (∀ W:World,Calls Tryz.prog 51 #[.int .u32 (be:Int),.int .i64 (q:Int)] W fun en W'=>(∃ a n c,en = .returned (.tuple #[.agg #[.slice a n c],.int .i64 0])∧Mine W' W.heap.size a n c pw)∧Below W.heap.size W W')) (HO:Hid (BSum 27 s false x y pw 1 z dn g))  :
  Calls Tryz.prog 26 #[.agg #[.bool s,.slice a n c,.slice b k l],.int .u32 (be:Int),.int .u64 (q:Int),.func (.func 27) #[] #[]] w fun en w'=>(∃ A N C A' N' C',en = .returned (.tuple #[.agg #[.bool g,.slice A N C,.slice A' N' C'],.int .i64 0])∧Mine w' w.heap.size A N C z∧Mine w' w.heap.size A' N' C' dn)∧Below w.heap.size w w':=by
 refine calls_sym Tryz.func26 rfl (by kernel_rfl) fun T hK=>?_
 replace hK:Kn T _ [(0,.agg #[.bool s,.slice a n c,.slice b k l]),(1,.int .u32 (be:Int)),(2,.int .u64 (q:Int)),(3,.func (.func 27) #[] #[])]:=hK
 have hS:=Fb.begin w
 have hG:GsAt [gN a n x,gN b k y] w:=⟨h1,h2,trivial⟩
 refine wq hS hG hK (fun p1=>[.n 4 #[.bool s,.slice a n c,.slice b k l] 30,.n 8 #[.bool false,.slice none 0 0,.slice none 0 0] 30,.v 9 (.int .i64 0)]) (fun p1=>[(1,.int .u32 (be:Int)),(2,.int .u64 (q:Int)),(3,.func (.func 27) #[] #[]),(4,pT (p1 0).N 0),(8,pT (p1 1).N 0),(9,.int .i64 0)]) (fun p1=>?_) (fun p1 W1 T hF hK=>?_)
 ·iterate 2 refine okn ?_
  refine okv ?_
  exact ok_nil
 replace hS:=SymF.fc hS hF [1000,1001] [⟨(p1 0).N,#[.bool s,.slice a n c,.slice b k l],30,true⟩,⟨(p1 1).N,#[.bool false,.slice none 0 0,.slice none 0 0],30,true⟩]
 replace hG:=hF.gx
 clear hF
 refine wp_seq ?_
 refine wq hS hG hK (fun p2=>[.v 14 (.int .u64 (q:Int)),.v 15 (.bool false)]) (fun p2=>[(1,.int .u32 (be:Int)),(2,.int .u64 (q:Int)),(3,.func (.func 27) #[] #[]),(4,pT (p1 0).N 0),(8,pT (p1 1).N 0),(9,.int .i64 0),(15,.bool false)]) (fun p2=>?_) (fun p2 W2 T hF hK=>?_)
 ·refine okv ?_
  refine okvb (decide_eq_false (show ¬ (q:Int) ≥ 1048576 by omega)) ?_
  exact ok_nil
 obtain ⟨hS,hG⟩:=SymF.fg hS hF
 clear hF
 refine wp_cond_false (hK.ew 15) (wp_skip (then_n ?_))
 refine wq hS hG hK (fun p3=>[.v 17 (.int .u32 (be:Int)),.c (some 18) (cV (.int .i64 (bl:Int))),.v 19 (.int .i64 (L:Int)),.v 20 (.int .u64 (L:Int)),.v 10 (.int .u64 (L:Int))]) (fun p3=>[(1,.int .u32 (be:Int)),(2,.int .u64 (q:Int)),(3,.func (.func 27) #[] #[]),(4,pT (p1 0).N 0),(8,pT (p1 1).N 0),(9,.int .i64 0),(10,.int .u64 (L:Int))]) (fun p3=>?_) (fun p3 W3 T hF hK=>?_)
 ·refine okv ?_
  refine okc (fun W cx=>as_v (unhide HL _)) ?_
  refine ok_vr (hdv) (by kernel_rfl) ?_
  refine okvi (hLu) ?_
  refine okv ?_
  exact ok_nil
 obtain ⟨hS,hG⟩:=SymF.fg hS hF
 clear hF
 refine wp_seq (wp_block (wp_loop_rounds 2 ?_))
 refine rounds_s (wp_seq ?_)
 refine wq hS hG hK (fun p4=>[.v 21 (.int .u64 (q:Int)),.v 22 (.bool true)]) (fun p4=>[(1,.int .u32 (be:Int)),(2,.int .u64 (q:Int)),(3,.func (.func 27) #[] #[]),(4,pT (p1 0).N 0),(8,pT (p1 1).N 0),(9,.int .i64 0),(10,.int .u64 (L:Int)),(22,.bool true)]) (fun p4=>?_) (fun p4 W4 T hF hK=>?_)
 ·refine okv ?_
  refine okvb (decide_eq_true (show (q:Int) > 0 by omega)) ?_
  exact ok_nil
 obtain ⟨hS,hG⟩:=SymF.fg hS hF
 clear hF
 refine wp_cond_true (hK.ew 22) (wp_skip ?_)
 refine then_n (wp_block ?_)
 refine wq hS hG hK (fun p5=>[.v 23 (.int .u64 (q:Int)),.v 24 (.int .u64 (L:Int)),.v 25 (.int .u64 (q:Int)),.v 11 (.int .u64 (q:Int))]) (fun p5=>[(1,.int .u32 (be:Int)),(2,.int .u64 (q:Int)),(3,.func (.func 27) #[] #[]),(4,pT (p1 0).N 0),(8,pT (p1 1).N 0),(9,.int .i64 0),(10,.int .u64 (L:Int)),(11,.int .u64 (q:Int))]) (fun p5=>?_) (fun p5 W5 T hF hK=>?_)
 ·iterate 2 refine okv ?_
  refine okvi (hqL) ?_
  refine okv ?_
  exact ok_nil
 obtain ⟨hS,hG⟩:=SymF.fg hS hF
 clear hF
 refine wq hS hG hK (fun p6=>[.v 26 (.int .u64 (q:Int)),.v 27 (.int .u64 (q:Int)),.v 28 (.int .u64 0),.v 2 (.int .u64 0)]) (fun p6=>[(1,.int .u32 (be:Int)),(2,.int .u64 0),(3,.func (.func 27) #[] #[]),(4,pT (p1 0).N 0),(8,pT (p1 1).N 0),(9,.int .i64 0),(10,.int .u64 (L:Int)),(11,.int .u64 (q:Int))]) (fun p6=>?_) (fun p6 W6 T hF hK=>?_)
 ·iterate 2 refine okv ?_
  refine okvi ((show IntKind.u64.wrap ((q:Int) - (q:Int)) = 0 by rw [Int.sub_self]; rfl)) ?_
  refine okv ?_
  exact ok_nil
 obtain ⟨hS,hG⟩:=SymF.fg hS hF
 clear hF
 refine wq hS hG hK (fun p7=>[.v 30 (.int .u32 (be:Int)),.v 31 (.int .u64 (q:Int)),.v 32 (.int .i64 (q:Int)),.c (some 33) (cO W6.heap.size pw),.v 29 (.tuple #[.agg #[.slice (p7 3).A (p7 3).N (p7 3).C],.int .i64 0]),.v 34 (.agg #[.slice (p7 3).A (p7 3).N (p7 3).C]),.v 35 (.int .i64 0),.n 12 #[.slice none 0 0] 28,.p 1007 0 [.slice (p7 3).A (p7 3).N (p7 3).C],.v 13 (.int .i64 0)]) (fun p7=>[(1,.int .u32 (be:Int)),(2,.int .u64 0),(3,.func (.func 27) #[] #[]),(4,pT (p1 0).N 0),(8,pT (p1 1).N 0),(9,.int .i64 0),(10,.int .u64 (L:Int)),(11,.int .u64 (q:Int)),(12,pT (p7 7).N 0),(13,.int .i64 0)]) (fun p7=>?_) (fun p7 W7 T hF hK=>?_)
 ·iterate 2 refine okv ?_
  refine okvi (hqi) ?_
  refine okc (fun W cx=>as_o cx.hb (unhide HP _)) ?_
  iterate 3 refine okv ?_
  refine okn ?_
  refine okp ?_
  refine okv ?_
  exact ok_nil
 replace hS:=SymF.fc hS hF [0,1,1007] [⟨(p1 0).N,#[.bool s,.slice a n c,.slice b k l],30,true⟩,⟨(p1 1).N,#[.bool false,.slice none 0 0,.slice none 0 0],30,true⟩,⟨(p7 7).N,#[.slice (p7 3).A (p7 3).N (p7 3).C],28,true⟩]
 replace hG:GsAt (gM W6.heap.size (p7 3).A (p7 3).N (p7 3).C pw :: _) W7:=⟨hF.fx 3,hF.gx⟩
 clear hF
 refine wp_seq ?_
 refine wq hS hG hK (fun p8=>[.v 36 (.int .i64 0),.v 37 (.bool false)]) (fun p8=>[(1,.int .u32 (be:Int)),(2,.int .u64 0),(3,.func (.func 27) #[] #[]),(4,pT (p1 0).N 0),(8,pT (p1 1).N 0),(9,.int .i64 0),(10,.int .u64 (L:Int)),(11,.int .u64 (q:Int)),(12,pT (p7 7).N 0),(13,.int .i64 0),(37,.bool false)]) (fun p8=>?_) (fun p8 W8 T hF hK=>?_)
 ·iterate 2 refine okv ?_
  exact ok_nil
 obtain ⟨hS,hG⟩:=SymF.fg hS hF
 clear hF
 have z8:=hS.fr.size
 refine wp_cond_false (hK.ew 37) (wp_skip (then_n ?_))
 refine wq hS hG hK (fun p9=>[.v 41 (.func (.func 27) #[] #[]),.l 42 (.agg #[.bool s,.slice a n c,.slice b k l]) 0 0,.l 43 (.agg #[.slice (p7 3).A (p7 3).N (p7 3).C]) 2 0,.c (some 44) (cN W8.heap.size 1),.v 45 (.agg #[.bool false,.slice (p7 3).A (p7 3).N (p7 3).C,.slice (p9 3).A (p9 3).N (p9 3).C]),.v 46 (.agg #[.bool s,.slice a n c,.slice b k l,.bool false,.slice (p7 3).A (p7 3).N (p7 3).C,.slice (p9 3).A (p9 3).N (p9 3).C]),.c (some 47) (cH W8.heap.size z dn fun x9 y9=>.tuple #[.agg #[.bool g,x9,y9],.int .i64 0]),.v 40 (.tuple #[.agg #[.bool g,.slice (p9 6).A (p9 6).N (p9 6).C,.slice (p9 6).A' (p9 6).N' (p9 6).C'],.int .i64 0]),.v 48 (.agg #[.bool g,.slice (p9 6).A (p9 6).N (p9 6).C,.slice (p9 6).A' (p9 6).N' (p9 6).C']),.v 49 (.int .i64 0),.p 0 0 [.bool g,.slice (p9 6).A (p9 6).N (p9 6).C,.slice (p9 6).A' (p9 6).N' (p9 6).C'],.v 13 (.int .i64 0)]) (fun p9=>[(1,.int .u32 (be:Int)),(2,.int .u64 0),(3,.func (.func 27) #[] #[]),(4,pT (p1 0).N 0),(8,pT (p1 1).N 0),(9,.int .i64 0),(10,.int .u64 (L:Int)),(11,.int .u64 (q:Int)),(12,pT (p7 7).N 0),(13,.int .i64 0)]) (fun p9=>?_) (fun p9 W9 T hF hK=>?_)
 ·refine okv ?_
  iterate 2 refine okl ?_
  refine okc (fun W cx=>as_n cx.hb (of_any 1 _ (by decide))) ?_
  iterate 2 refine okv ?_
  refine okc (fun W cx=>as_h cx.hb (unhide HO _ _ _ c _ _ l _ _ (p7 3).C _ _ (p9 3).C (cx.G.2.1) (cx.G.2.2.1) (Mine.num cx.G.1) (Mine.num (cx.F 3 (by kernel_rfl))))) ?_
  iterate 3 refine okv ?_
  refine okp ?_
  refine okv ?_
  exact ok_nil
 replace hS:=SymF.fc hS hF [0,1,2] [⟨(p1 0).N,#[.bool g,.slice (p9 6).A (p9 6).N (p9 6).C,.slice (p9 6).A' (p9 6).N' (p9 6).C'],30,true⟩,⟨(p1 1).N,#[.bool false,.slice none 0 0,.slice none 0 0],30,true⟩,⟨(p7 7).N,#[.slice (p7 3).A (p7 3).N (p7 3).C],28,true⟩]
 replace hG:GsAt (gM W8.heap.size (p9 3).A (p9 3).N (p9 3).C 1 :: gM W8.heap.size (p9 6).A (p9 6).N (p9 6).C z :: gM W8.heap.size (p9 6).A' (p9 6).N' (p9 6).C' dn :: _) W9:=⟨hF.fx 3,And.left (hF.fx 6),And.right (hF.fx 6),hF.gx⟩
 clear hF
 refine wq hS hG hK (fun p10=>[.v 50 (.int .i64 0),.v 51 (.bool false)]) (fun p10=>[(1,.int .u32 (be:Int)),(2,.int .u64 0),(3,.func (.func 27) #[] #[]),(4,pT (p1 0).N 0),(8,pT (p1 1).N 0),(9,.int .i64 0),(10,.int .u64 (L:Int)),(11,.int .u64 (q:Int)),(12,pT (p7 7).N 0),(13,.int .i64 0),(51,.bool false)]) (fun p10=>?_) (fun p10 W10 T hF hK=>?_)
 ·iterate 2 refine okv ?_
  exact ok_nil
 obtain ⟨hS,hG⟩:=SymF.fg hS hF
 clear hF
 refine wp_cond_false (hK.ew 51) (wp_skip ?_)
 refine inb_n (then_n ?_)
 refine rounds_s (wp_seq ?_)
 refine wq hS hG hK (fun p11=>[.v 21 (.int .u64 0),.v 22 (.bool false)]) (fun p11=>[(1,.int .u32 (be:Int)),(2,.int .u64 0),(3,.func (.func 27) #[] #[]),(4,pT (p1 0).N 0),(8,pT (p1 1).N 0),(9,.int .i64 0),(10,.int .u64 (L:Int)),(11,.int .u64 (q:Int)),(12,pT (p7 7).N 0),(13,.int .i64 0),(22,.bool false)]) (fun p11=>?_) (fun p11 W11 T hF hK=>?_)
 ·iterate 2 refine okv ?_
  exact ok_nil
 obtain ⟨hS,hG⟩:=SymF.fg hS hF
 clear hF
 refine wp_cond_false (hK.ew 22) (wp_exit ?_)
 refine then_x (then_x ?_)
 refine inb_x (then_n ?_)
 refine wq hS hG hK (fun p12=>[.l 54 (.agg #[.bool g,.slice (p9 6).A (p9 6).N (p9 6).C,.slice (p9 6).A' (p9 6).N' (p9 6).C']) 0 0,.p 1 0 [.bool g,.slice (p9 6).A (p9 6).N (p9 6).C,.slice (p9 6).A' (p9 6).N' (p9 6).C'],.v 9 (.int .i64 0)]) (fun p12=>[(8,pT (p1 1).N 0),(9,.int .i64 0),(13,.int .i64 0)]) (fun p12=>?_) (fun p12 W12 T hF hK=>?_)
 ·refine okl ?_
  refine okp ?_
  refine okv ?_
  exact ok_nil
 replace hS:=SymF.fc hS hF [1] [⟨(p1 1).N,#[.bool g,.slice (p9 6).A (p9 6).N (p9 6).C,.slice (p9 6).A' (p9 6).N' (p9 6).C'],30,true⟩]
 replace hG:=hF.gx
 clear hF
 refine wp_ret ?_
 exact sym_end hS hK (.tuple #[.agg #[.bool g,.slice (p9 6).A (p9 6).N (p9 6).C,.slice (p9 6).A' (p9 6).N' (p9 6).C'],.int .i64 0]) [(0,0,3)] [.bool g,.slice (p9 6).A (p9 6).N (p9 6).C,.slice (p9 6).A' (p9 6).N' (p9 6).C'] (by kernel_rfl) (by kernel_rfl) ⟨⟨_,_,_,_,_,_,rfl,Mine.mono hG.2.1 z8,Mine.mono hG.2.2.1 z8⟩,hS.fr⟩
theorem zcopied (w:World) (s:Bool) (a b:Option Addr) (n c k l x y:Nat) (t:Bool) (h1:Num w a n x) (h2:Num w b k y)  :
  Calls Tryz.prog 25 #[.bool t,.agg #[.bool s,.slice a n c,.slice b k l]] w fun en w'=>(∃ A N C A' N' C',en = .returned (.agg #[.bool t,.slice A N C,.slice A' N' C'])∧Mine w' w.heap.size A N C x∧Mine w' w.heap.size A' N' C' y)∧Below w.heap.size w w':=by
 refine calls_sym Tryz.func25 rfl (by kernel_rfl) fun T hK=>?_
 replace hK:Kn T _ [(0,.bool t),(1,.agg #[.bool s,.slice a n c,.slice b k l])]:=hK
 have hS:=Fb.begin w
 have hG:GsAt [gN a n x,gN b k y] w:=⟨h1,h2,trivial⟩
 refine wq hS hG hK (fun p1=>[.n 3 #[.bool s,.slice a n c,.slice b k l] 30,.n 4 #[.bool false,.slice none 0 0,.slice none 0 0] 30]) (fun p1=>[(0,.bool t),(3,pT (p1 0).N 0),(4,pT (p1 1).N 0)]) (fun p1=>?_) (fun p1 W1 T hF hK=>?_)
 ·iterate 2 refine okn ?_
  exact ok_nil
 replace hS:=SymF.fc hS hF [1000,1001] [⟨(p1 0).N,#[.bool s,.slice a n c,.slice b k l],30,true⟩,⟨(p1 1).N,#[.bool false,.slice none 0 0,.slice none 0 0],30,true⟩]
 replace hG:=hF.gx
 clear hF
 have z1:=hS.fr.size
 refine wq hS hG hK (fun p2=>[.v 5 (.bool t),.v 6 (pT (p1 0).N 1),.v 7 (pT (p1 0).N 1),.l 8 (.slice a n c) 0 1,.c (some 9) (cG W1.heap.size x fun x9=>x9),.v 10 (.agg #[.slice (p2 4).A (p2 4).N (p2 4).C]),.v 11 (pT (p1 0).N 2),.v 12 (pT (p1 0).N 2),.l 13 (.slice b k l) 0 2,.c (some 14) (cG W1.heap.size y fun x9=>x9),.v 15 (.agg #[.slice (p2 9).A (p2 9).N (p2 9).C]),.v 16 (.agg #[.bool t,.slice (p2 4).A (p2 4).N (p2 4).C,.slice (p2 9).A (p2 9).N (p2 9).C]),.p 1 0 [.bool t,.slice (p2 4).A (p2 4).N (p2 4).C,.slice (p2 9).A (p2 9).N (p2 9).C]]) (fun p2=>[(4,pT (p1 1).N 0)]) (fun p2=>?_) (fun p2 W2 T hF hK=>?_)
 ·iterate 3 refine okv ?_
  refine okl ?_
  refine okc (fun W cx=>as_g cx.hb (zclone _ _ c x _ (cx.G.1))) ?_
  iterate 3 refine okv ?_
  refine okl ?_
  refine okc (fun W cx=>as_g cx.hb (zclone _ _ l y _ (cx.G.2.1))) ?_
  iterate 2 refine okv ?_
  refine okp ?_
  exact ok_nil
 replace hS:=SymF.fc hS hF [1] [⟨(p1 1).N,#[.bool t,.slice (p2 4).A (p2 4).N (p2 4).C,.slice (p2 9).A (p2 9).N (p2 9).C],30,true⟩]
 replace hG:GsAt (gM W1.heap.size (p2 4).A (p2 4).N (p2 4).C x :: gM W1.heap.size (p2 9).A (p2 9).N (p2 9).C y :: _) W2:=⟨hF.fx 4,hF.fx 9,hF.gx⟩
 clear hF
 refine wp_ret ?_
 exact sym_end hS hK (.agg #[.bool t,.slice (p2 4).A (p2 4).N (p2 4).C,.slice (p2 9).A (p2 9).N (p2 9).C]) [(0,0,3)] [.bool t,.slice (p2 4).A (p2 4).N (p2 4).C,.slice (p2 9).A (p2 9).N (p2 9).C] (by kernel_rfl) (by kernel_rfl) ⟨⟨_,_,_,_,_,_,rfl,Mine.mono hG.1 z1,Mine.mono hG.2.1 z1⟩,hS.fr⟩
theorem zsca_one (w:World) (s:Bool) (a b:Option Addr) (n c k l x y:Nat) (be:Nat) (m:Int) (h1:Num w a n x) (h2:Num w b k y) (hbe:be = 1) (HC:Hid (∀ W:World,Num W a n x→Num W b k y→Calls Tryz.prog 15 #[.agg #[.bool s,.slice a n c,.slice b k l]] W fun e W'=>e = .returned (.int .i64 0)∧Below W.heap.size W W'))  :
  Calls Tryz.prog 8 #[.agg #[.bool s,.slice a n c,.slice b k l],.int .u32 (be:Int),.int .i64 m] w fun en w'=>(∃ A N C A' N' C',en = .returned (.tuple #[.agg #[.bool s,.slice A N C,.slice A' N' C'],.int .i64 0])∧Mine w' w.heap.size A N C x∧Mine w' w.heap.size A' N' C' y)∧Below w.heap.size w w':=by
 refine calls_sym Tryz.func8 rfl (by kernel_rfl) fun T hK=>?_
 replace hK:Kn T _ [(0,.agg #[.bool s,.slice a n c,.slice b k l]),(1,.int .u32 (be:Int)),(2,.int .i64 m)]:=hK
 have hS:=Fb.begin w
 have hG:GsAt [gN a n x,gN b k y] w:=⟨h1,h2,trivial⟩
 refine wq hS hG hK (fun p1=>[.n 3 #[.bool s,.slice a n c,.slice b k l] 30,.n 6 #[.bool false,.slice none 0 0,.slice none 0 0] 30,.v 7 (.int .i64 0)]) (fun p1=>[(1,.int .u32 (be:Int)),(2,.int .i64 m),(3,pT (p1 0).N 0),(6,pT (p1 1).N 0),(7,.int .i64 0)]) (fun p1=>?_) (fun p1 W1 T hF hK=>?_)
 ·iterate 2 refine okn ?_
  refine okv ?_
  exact ok_nil
 replace hS:=SymF.fc hS hF [1000,1001] [⟨(p1 0).N,#[.bool s,.slice a n c,.slice b k l],30,true⟩,⟨(p1 1).N,#[.bool false,.slice none 0 0,.slice none 0 0],30,true⟩]
 replace hG:=hF.gx
 clear hF
 refine wp_seq ?_
 refine wq hS hG hK (fun p2=>[.l 9 (.agg #[.bool s,.slice a n c,.slice b k l]) 0 0,.c (some 10) (cV (.int .i64 0)),.v 8 (.int .i64 0)]) (fun p2=>[(1,.int .u32 (be:Int)),(2,.int .i64 m),(3,pT (p1 0).N 0),(6,pT (p1 1).N 0),(7,.int .i64 0),(8,.int .i64 0)]) (fun p2=>?_) (fun p2 W2 T hF hK=>?_)
 ·refine okl ?_
  refine okc (fun W cx=>as_v (unhide HC _ (cx.G.1) (cx.G.2.1))) ?_
  refine okv ?_
  exact ok_nil
 obtain ⟨hS,hG⟩:=SymF.fg hS hF
 clear hF
 refine wq hS hG hK (fun p3=>[.v 11 (.int .i64 0),.v 12 (.bool false)]) (fun p3=>[(1,.int .u32 (be:Int)),(2,.int .i64 m),(3,pT (p1 0).N 0),(6,pT (p1 1).N 0),(7,.int .i64 0),(8,.int .i64 0),(12,.bool false)]) (fun p3=>?_) (fun p3 W3 T hF hK=>?_)
 ·iterate 2 refine okv ?_
  exact ok_nil
 obtain ⟨hS,hG⟩:=SymF.fg hS hF
 clear hF
 refine wp_cond_false (hK.ew 12) (wp_skip ?_)
 refine then_n (wp_seq ?_)
 refine wq hS hG hK (fun p4=>[.v 15 (.int .u32 (be:Int)),.v 16 (.bool false),.v 17 (.bool false),.k (some 18),.k (some 19),.v 20 (.bool false)]) (fun p4=>[(1,.int .u32 (be:Int)),(2,.int .i64 m),(3,pT (p1 0).N 0),(6,pT (p1 1).N 0),(7,.int .i64 0),(8,.int .i64 0),(20,.bool false)]) (fun p4=>?_) (fun p4 W4 T hF hK=>?_)
 ·refine okv ?_
  refine okvb (beq_false_of_ne (show (be:Int)≠0 by omega)) ?_
  refine okv ?_
  iterate 2 refine okk ?_
  refine okv ?_
  exact ok_nil
 obtain ⟨hS,hG⟩:=SymF.fg hS hF
 clear hF
 refine wp_cond_false (hK.ew 20) (wp_skip ?_)
 refine then_n (wp_seq ?_)
 refine wq hS hG hK (fun p5=>[.v 22 (.int .u32 (be:Int)),.v 23 (.bool false),.v 24 (.bool false),.k (some 25),.k (some 26),.v 27 (.bool false)]) (fun p5=>[(1,.int .u32 (be:Int)),(2,.int .i64 m),(3,pT (p1 0).N 0),(6,pT (p1 1).N 0),(7,.int .i64 0),(8,.int .i64 0),(27,.bool false)]) (fun p5=>?_) (fun p5 W5 T hF hK=>?_)
 ·refine okv ?_
  refine okvb (beq_false_of_ne (show (be:Int)≠0 by omega)) ?_
  refine okv ?_
  iterate 2 refine okk ?_
  refine okv ?_
  exact ok_nil
 obtain ⟨hS,hG⟩:=SymF.fg hS hF
 clear hF
 refine wp_cond_false (hK.ew 27) (wp_skip ?_)
 refine then_n (wp_seq ?_)
 refine wq hS hG hK (fun p6=>[.v 29 (.int .u32 (be:Int)),.v 30 (.bool true),.v 31 (.bool true),.k (some 32),.k (some 33),.v 34 (.bool true),.v 35 (.bool true),.k (some 36),.k (some 37),.k (some 38),.v 39 (.bool true)]) (fun p6=>[(1,.int .u32 (be:Int)),(2,.int .i64 m),(3,pT (p1 0).N 0),(6,pT (p1 1).N 0),(7,.int .i64 0),(8,.int .i64 0),(39,.bool true)]) (fun p6=>?_) (fun p6 W6 T hF hK=>?_)
 ·refine okv ?_
  refine okvb (decide_eq_true (show (be:Int)≤1 by omega)) ?_
  refine okv ?_
  iterate 2 refine okk ?_
  iterate 2 refine okv ?_
  iterate 3 refine okk ?_
  refine okv ?_
  exact ok_nil
 obtain ⟨hS,hG⟩:=SymF.fg hS hF
 clear hF
 have z6:=hS.fr.size
 refine wp_cond_true (hK.ew 39) ?_
 refine wq hS hG hK (fun p7=>[.v 40 (pT (p1 0).N 0),.l 41 (.bool s) 0 0,.l 42 (.agg #[.bool s,.slice a n c,.slice b k l]) 0 0,.c (some 43) (cH W6.heap.size x y fun x9 y9=>.agg #[.bool s,x9,y9]),.p 1 0 [.bool s,.slice (p7 3).A (p7 3).N (p7 3).C,.slice (p7 3).A' (p7 3).N' (p7 3).C'],.v 7 (.int .i64 0)]) (fun p7=>[(1,.int .u32 (be:Int)),(2,.int .i64 m),(3,pT (p1 0).N 0),(6,pT (p1 1).N 0),(7,.int .i64 0),(8,.int .i64 0)]) (fun p7=>?_) (fun p7 W7 T hF hK=>?_)
 ·refine okv ?_
  iterate 2 refine okl ?_
  refine okc (fun W cx=>as_h cx.hb (zcopied _ s a b n c k l x y s (cx.G.1) (cx.G.2.1))) ?_
  refine okp ?_
  refine okv ?_
  exact ok_nil
 replace hS:=SymF.fc hS hF [0,1] [⟨(p1 0).N,#[.bool s,.slice a n c,.slice b k l],30,true⟩,⟨(p1 1).N,#[.bool s,.slice (p7 3).A (p7 3).N (p7 3).C,.slice (p7 3).A' (p7 3).N' (p7 3).C'],30,true⟩]
 replace hG:GsAt (gM W6.heap.size (p7 3).A (p7 3).N (p7 3).C x :: gM W6.heap.size (p7 3).A' (p7 3).N' (p7 3).C' y :: _) W7:=⟨And.left (hF.fx 3),And.right (hF.fx 3),hF.gx⟩
 clear hF
 refine wp_ret ?_
 refine then_r ?_
 exact sym_end hS hK (.tuple #[.agg #[.bool s,.slice (p7 3).A (p7 3).N (p7 3).C,.slice (p7 3).A' (p7 3).N' (p7 3).C'],.int .i64 0]) [(1,0,3)] [.bool s,.slice (p7 3).A (p7 3).N (p7 3).C,.slice (p7 3).A' (p7 3).N' (p7 3).C'] (by kernel_rfl) (by kernel_rfl) ⟨⟨_,_,_,_,_,_,rfl,Mine.mono hG.1 z6,Mine.mono hG.2.1 z6⟩,hS.fr⟩
theorem zsca_nil (w:World) (s:Bool) (a b:Option Addr) (n c k l x y:Nat) (be:Nat) (m:Int) (h1:Num w a n x) (h2:Num w b k y) (hbe:2≤be) (hm:m = 0) (HC:Hid (∀ W:World,Num W a n x→Num W b k y→Calls Tryz.prog 15 #[.agg #[.bool s,.slice a n c,.slice b k l]] W fun e W'=>e = .returned (.int .i64 0)∧Below W.heap.size W W'))  :
  Calls Tryz.prog 8 #[.agg #[.bool s,.slice a n c,.slice b k l],.int .u32 (be:Int),.int .i64 m] w fun en w'=>(∃ A N C A' N' C',en = .returned (.tuple #[.agg #[.bool s,.slice A N C,.slice A' N' C'],.int .i64 0])∧Mine w' w.heap.size A N C x∧Mine w' w.heap.size A' N' C' y)∧Below w.heap.size w w':=by
 refine calls_sym Tryz.func8 rfl (by kernel_rfl) fun T hK=>?_
 replace hK:Kn T _ [(0,.agg #[.bool s,.slice a n c,.slice b k l]),(1,.int .u32 (be:Int)),(2,.int .i64 m)]:=hK
 have hS:=Fb.begin w
 have hG:GsAt [gN a n x,gN b k y] w:=⟨h1,h2,trivial⟩
 refine wq hS hG hK (fun p1=>[.n 3 #[.bool s,.slice a n c,.slice b k l] 30,.n 6 #[.bool false,.slice none 0 0,.slice none 0 0] 30,.v 7 (.int .i64 0)]) (fun p1=>[(1,.int .u32 (be:Int)),(2,.int .i64 m),(3,pT (p1 0).N 0),(6,pT (p1 1).N 0),(7,.int .i64 0)]) (fun p1=>?_) (fun p1 W1 T hF hK=>?_)
 ·iterate 2 refine okn ?_
  refine okv ?_
  exact ok_nil
 replace hS:=SymF.fc hS hF [1000,1001] [⟨(p1 0).N,#[.bool s,.slice a n c,.slice b k l],30,true⟩,⟨(p1 1).N,#[.bool false,.slice none 0 0,.slice none 0 0],30,true⟩]
 replace hG:=hF.gx
 clear hF
 refine wp_seq ?_
 refine wq hS hG hK (fun p2=>[.l 9 (.agg #[.bool s,.slice a n c,.slice b k l]) 0 0,.c (some 10) (cV (.int .i64 0)),.v 8 (.int .i64 0)]) (fun p2=>[(1,.int .u32 (be:Int)),(2,.int .i64 m),(3,pT (p1 0).N 0),(6,pT (p1 1).N 0),(7,.int .i64 0),(8,.int .i64 0)]) (fun p2=>?_) (fun p2 W2 T hF hK=>?_)
 ·refine okl ?_
  refine okc (fun W cx=>as_v (unhide HC _ (cx.G.1) (cx.G.2.1))) ?_
  refine okv ?_
  exact ok_nil
 obtain ⟨hS,hG⟩:=SymF.fg hS hF
 clear hF
 refine wq hS hG hK (fun p3=>[.v 11 (.int .i64 0),.v 12 (.bool false)]) (fun p3=>[(1,.int .u32 (be:Int)),(2,.int .i64 m),(3,pT (p1 0).N 0),(6,pT (p1 1).N 0),(7,.int .i64 0),(8,.int .i64 0),(12,.bool false)]) (fun p3=>?_) (fun p3 W3 T hF hK=>?_)
 ·iterate 2 refine okv ?_
  exact ok_nil
 obtain ⟨hS,hG⟩:=SymF.fg hS hF
 clear hF
 refine wp_cond_false (hK.ew 12) (wp_skip ?_)
 refine then_n (wp_seq ?_)
 refine wq hS hG hK (fun p4=>[.v 15 (.int .u32 (be:Int)),.v 16 (.bool false),.v 17 (.bool false),.k (some 18),.k (some 19),.v 20 (.bool false)]) (fun p4=>[(1,.int .u32 (be:Int)),(2,.int .i64 m),(3,pT (p1 0).N 0),(6,pT (p1 1).N 0),(7,.int .i64 0),(8,.int .i64 0),(20,.bool false)]) (fun p4=>?_) (fun p4 W4 T hF hK=>?_)
 ·refine okv ?_
  refine okvb (beq_false_of_ne (show (be:Int)≠0 by omega)) ?_
  refine okv ?_
  iterate 2 refine okk ?_
  refine okv ?_
  exact ok_nil
 obtain ⟨hS,hG⟩:=SymF.fg hS hF
 clear hF
 refine wp_cond_false (hK.ew 20) (wp_skip ?_)
 refine then_n (wp_seq ?_)
 refine wq hS hG hK (fun p5=>[.v 22 (.int .u32 (be:Int)),.v 23 (.bool false),.v 24 (.bool false),.k (some 25),.k (some 26),.v 27 (.bool false)]) (fun p5=>[(1,.int .u32 (be:Int)),(2,.int .i64 m),(3,pT (p1 0).N 0),(6,pT (p1 1).N 0),(7,.int .i64 0),(8,.int .i64 0),(27,.bool false)]) (fun p5=>?_) (fun p5 W5 T hF hK=>?_)
 ·refine okv ?_
  refine okvb (beq_false_of_ne (show (be:Int)≠0 by omega)) ?_
  refine okv ?_
  iterate 2 refine okk ?_
  refine okv ?_
  exact ok_nil
 obtain ⟨hS,hG⟩:=SymF.fg hS hF
 clear hF
 refine wp_cond_false (hK.ew 27) (wp_skip ?_)
 refine then_n (wp_seq ?_)
 refine wq hS hG hK (fun p6=>[.v 29 (.int .u32 (be:Int)),.v 30 (.bool false),.v 31 (.bool false),.v 32 (.int .i64 m),.v 33 (.bool true),.v 34 (.bool true),.v 35 (.bool true),.k (some 36),.k (some 37),.k (some 38),.v 39 (.bool true)]) (fun p6=>[(1,.int .u32 (be:Int)),(2,.int .i64 m),(3,pT (p1 0).N 0),(6,pT (p1 1).N 0),(7,.int .i64 0),(8,.int .i64 0),(39,.bool true)]) (fun p6=>?_) (fun p6 W6 T hF hK=>?_)
 ·refine okv ?_
  refine okvb (decide_eq_false (show ¬ (be:Int)≤1 by omega)) ?_
  iterate 2 refine okv ?_
  refine okvb (beq_iff_eq.2 hm) ?_
  iterate 2 refine okv ?_
  iterate 3 refine okk ?_
  refine okv ?_
  exact ok_nil
 obtain ⟨hS,hG⟩:=SymF.fg hS hF
 clear hF
 have z6:=hS.fr.size
 refine wp_cond_true (hK.ew 39) ?_
 refine wq hS hG hK (fun p7=>[.v 40 (pT (p1 0).N 0),.l 41 (.bool s) 0 0,.l 42 (.agg #[.bool s,.slice a n c,.slice b k l]) 0 0,.c (some 43) (cH W6.heap.size x y fun x9 y9=>.agg #[.bool s,x9,y9]),.p 1 0 [.bool s,.slice (p7 3).A (p7 3).N (p7 3).C,.slice (p7 3).A' (p7 3).N' (p7 3).C'],.v 7 (.int .i64 0)]) (fun p7=>[(1,.int .u32 (be:Int)),(2,.int .i64 m),(3,pT (p1 0).N 0),(6,pT (p1 1).N 0),(7,.int .i64 0),(8,.int .i64 0)]) (fun p7=>?_) (fun p7 W7 T hF hK=>?_)
 ·refine okv ?_
  iterate 2 refine okl ?_
  refine okc (fun W cx=>as_h cx.hb (zcopied _ s a b n c k l x y s (cx.G.1) (cx.G.2.1))) ?_
  refine okp ?_
  refine okv ?_
  exact ok_nil
 replace hS:=SymF.fc hS hF [0,1] [⟨(p1 0).N,#[.bool s,.slice a n c,.slice b k l],30,true⟩,⟨(p1 1).N,#[.bool s,.slice (p7 3).A (p7 3).N (p7 3).C,.slice (p7 3).A' (p7 3).N' (p7 3).C'],30,true⟩]
 replace hG:GsAt (gM W6.heap.size (p7 3).A (p7 3).N (p7 3).C x :: gM W6.heap.size (p7 3).A' (p7 3).N' (p7 3).C' y :: _) W7:=⟨And.left (hF.fx 3),And.right (hF.fx 3),hF.gx⟩
 clear hF
 refine wp_ret ?_
 refine then_r ?_
 exact sym_end hS hK (.tuple #[.agg #[.bool s,.slice (p7 3).A (p7 3).N (p7 3).C,.slice (p7 3).A' (p7 3).N' (p7 3).C'],.int .i64 0]) [(1,0,3)] [.bool s,.slice (p7 3).A (p7 3).N (p7 3).C,.slice (p7 3).A' (p7 3).N' (p7 3).C'] (by kernel_rfl) (by kernel_rfl) ⟨⟨_,_,_,_,_,_,rfl,Mine.mono hG.1 z6,Mine.mono hG.2.1 z6⟩,hS.fr⟩
theorem zsca_zer (w:World) (s:Bool) (a b:Option Addr) (n c k l x y:Nat) (be:Nat) (m:Int) (h1:Num w a n x) (h2:Num w b k y) (hbe:2≤be) (hm:m≠0) (hx:x = 0) (HC:Hid (∀ W:World,Num W a n x→Num W b k y→Calls Tryz.prog 15 #[.agg #[.bool s,.slice a n c,.slice b k l]] W fun e W'=>e = .returned (.int .i64 0)∧Below W.heap.size W W'))  :
  Calls Tryz.prog 8 #[.agg #[.bool s,.slice a n c,.slice b k l],.int .u32 (be:Int),.int .i64 m] w fun en w'=>(∃ A N C A' N' C',en = .returned (.tuple #[.agg #[.bool s,.slice A N C,.slice A' N' C'],.int .i64 0])∧Mine w' w.heap.size A N C x∧Mine w' w.heap.size A' N' C' y)∧Below w.heap.size w w':=by
 refine calls_sym Tryz.func8 rfl (by kernel_rfl) fun T hK=>?_
 replace hK:Kn T _ [(0,.agg #[.bool s,.slice a n c,.slice b k l]),(1,.int .u32 (be:Int)),(2,.int .i64 m)]:=hK
 have hS:=Fb.begin w
 have hG:GsAt [gN a n x,gN b k y] w:=⟨h1,h2,trivial⟩
 refine wq hS hG hK (fun p1=>[.n 3 #[.bool s,.slice a n c,.slice b k l] 30,.n 6 #[.bool false,.slice none 0 0,.slice none 0 0] 30,.v 7 (.int .i64 0)]) (fun p1=>[(1,.int .u32 (be:Int)),(2,.int .i64 m),(3,pT (p1 0).N 0),(6,pT (p1 1).N 0),(7,.int .i64 0)]) (fun p1=>?_) (fun p1 W1 T hF hK=>?_)
 ·iterate 2 refine okn ?_
  refine okv ?_
  exact ok_nil
 replace hS:=SymF.fc hS hF [1000,1001] [⟨(p1 0).N,#[.bool s,.slice a n c,.slice b k l],30,true⟩,⟨(p1 1).N,#[.bool false,.slice none 0 0,.slice none 0 0],30,true⟩]
 replace hG:=hF.gx
 clear hF
 refine wp_seq ?_
 refine wq hS hG hK (fun p2=>[.l 9 (.agg #[.bool s,.slice a n c,.slice b k l]) 0 0,.c (some 10) (cV (.int .i64 0)),.v 8 (.int .i64 0)]) (fun p2=>[(1,.int .u32 (be:Int)),(2,.int .i64 m),(3,pT (p1 0).N 0),(6,pT (p1 1).N 0),(7,.int .i64 0),(8,.int .i64 0)]) (fun p2=>?_) (fun p2 W2 T hF hK=>?_)
 ·refine okl ?_
  refine okc (fun W cx=>as_v (unhide HC _ (cx.G.1) (cx.G.2.1))) ?_
  refine okv ?_
  exact ok_nil
 obtain ⟨hS,hG⟩:=SymF.fg hS hF
 clear hF
 refine wq hS hG hK (fun p3=>[.v 11 (.int .i64 0),.v 12 (.bool false)]) (fun p3=>[(1,.int .u32 (be:Int)),(2,.int .i64 m),(3,pT (p1 0).N 0),(6,pT (p1 1).N 0),(7,.int .i64 0),(8,.int .i64 0),(12,.bool false)]) (fun p3=>?_) (fun p3 W3 T hF hK=>?_)
 ·iterate 2 refine okv ?_
  exact ok_nil
 obtain ⟨hS,hG⟩:=SymF.fg hS hF
 clear hF
 refine wp_cond_false (hK.ew 12) (wp_skip ?_)
 refine then_n (wp_seq ?_)
 refine wq hS hG hK (fun p4=>[.v 15 (.int .u32 (be:Int)),.v 16 (.bool false),.v 17 (.bool false),.k (some 18),.k (some 19),.v 20 (.bool false)]) (fun p4=>[(1,.int .u32 (be:Int)),(2,.int .i64 m),(3,pT (p1 0).N 0),(6,pT (p1 1).N 0),(7,.int .i64 0),(8,.int .i64 0),(20,.bool false)]) (fun p4=>?_) (fun p4 W4 T hF hK=>?_)
 ·refine okv ?_
  refine okvb (beq_false_of_ne (show (be:Int)≠0 by omega)) ?_
  refine okv ?_
  iterate 2 refine okk ?_
  refine okv ?_
  exact ok_nil
 obtain ⟨hS,hG⟩:=SymF.fg hS hF
 clear hF
 refine wp_cond_false (hK.ew 20) (wp_skip ?_)
 refine then_n (wp_seq ?_)
 refine wq hS hG hK (fun p5=>[.v 22 (.int .u32 (be:Int)),.v 23 (.bool false),.v 24 (.bool false),.k (some 25),.k (some 26),.v 27 (.bool false)]) (fun p5=>[(1,.int .u32 (be:Int)),(2,.int .i64 m),(3,pT (p1 0).N 0),(6,pT (p1 1).N 0),(7,.int .i64 0),(8,.int .i64 0),(27,.bool false)]) (fun p5=>?_) (fun p5 W5 T hF hK=>?_)
 ·refine okv ?_
  refine okvb (beq_false_of_ne (show (be:Int)≠0 by omega)) ?_
  refine okv ?_
  iterate 2 refine okk ?_
  refine okv ?_
  exact ok_nil
 obtain ⟨hS,hG⟩:=SymF.fg hS hF
 clear hF
 refine wp_cond_false (hK.ew 27) (wp_skip ?_)
 refine then_n (wp_seq ?_)
 refine wq hS hG hK (fun p6=>[.v 29 (.int .u32 (be:Int)),.v 30 (.bool false),.v 31 (.bool false),.v 32 (.int .i64 m),.v 33 (.bool false),.v 34 (.bool false),.v 35 (.bool false),.v 36 (pT (p1 0).N 1),.l 37 (.agg #[.slice a n c]) 0 1,.c (some 38) (cV (.bool true)),.v 39 (.bool true)]) (fun p6=>[(1,.int .u32 (be:Int)),(2,.int .i64 m),(3,pT (p1 0).N 0),(6,pT (p1 1).N 0),(7,.int .i64 0),(8,.int .i64 0),(39,.bool true)]) (fun p6=>?_) (fun p6 W6 T hF hK=>?_)
 ·refine okv ?_
  refine okvb (decide_eq_false (show ¬ (be:Int)≤1 by omega)) ?_
  iterate 2 refine okv ?_
  refine okvb (beq_false_of_ne hm) ?_
  iterate 3 refine okv ?_
  refine okl ?_
  refine okc (fun W cx=>as_v (znought a _ c _ _ ((Num.zdec (cx.G.1)).trans (decide_eq_true hx)))) ?_
  refine okv ?_
  exact ok_nil
 obtain ⟨hS,hG⟩:=SymF.fg hS hF
 clear hF
 have z6:=hS.fr.size
 refine wp_cond_true (hK.ew 39) ?_
 refine wq hS hG hK (fun p7=>[.v 40 (pT (p1 0).N 0),.l 41 (.bool s) 0 0,.l 42 (.agg #[.bool s,.slice a n c,.slice b k l]) 0 0,.c (some 43) (cH W6.heap.size x y fun x9 y9=>.agg #[.bool s,x9,y9]),.p 1 0 [.bool s,.slice (p7 3).A (p7 3).N (p7 3).C,.slice (p7 3).A' (p7 3).N' (p7 3).C'],.v 7 (.int .i64 0)]) (fun p7=>[(1,.int .u32 (be:Int)),(2,.int .i64 m),(3,pT (p1 0).N 0),(6,pT (p1 1).N 0),(7,.int .i64 0),(8,.int .i64 0)]) (fun p7=>?_) (fun p7 W7 T hF hK=>?_)
 ·refine okv ?_
  iterate 2 refine okl ?_
  refine okc (fun W cx=>as_h cx.hb (zcopied _ s a b n c k l x y s (cx.G.1) (cx.G.2.1))) ?_
  refine okp ?_
  refine okv ?_
  exact ok_nil
 replace hS:=SymF.fc hS hF [0,1] [⟨(p1 0).N,#[.bool s,.slice a n c,.slice b k l],30,true⟩,⟨(p1 1).N,#[.bool s,.slice (p7 3).A (p7 3).N (p7 3).C,.slice (p7 3).A' (p7 3).N' (p7 3).C'],30,true⟩]
 replace hG:GsAt (gM W6.heap.size (p7 3).A (p7 3).N (p7 3).C x :: gM W6.heap.size (p7 3).A' (p7 3).N' (p7 3).C' y :: _) W7:=⟨And.left (hF.fx 3),And.right (hF.fx 3),hF.gx⟩
 clear hF
 refine wp_ret ?_
 refine then_r ?_
 exact sym_end hS hK (.tuple #[.agg #[.bool s,.slice (p7 3).A (p7 3).N (p7 3).C,.slice (p7 3).A' (p7 3).N' (p7 3).C'],.int .i64 0]) [(1,0,3)] [.bool s,.slice (p7 3).A (p7 3).N (p7 3).C,.slice (p7 3).A' (p7 3).N' (p7 3).C'] (by kernel_rfl) (by kernel_rfl) ⟨⟨_,_,_,_,_,_,rfl,Mine.mono hG.1 z6,Mine.mono hG.2.1 z6⟩,hS.fr⟩
theorem zsca_p (w:World) (s:Bool) (a b:Option Addr) (n c k l x y:Nat) (g:Bool) (be q z dn:Nat) (h1:Num w a n x) (h2:Num w b k y) (hbe:2≤be) (hx:x≠0) (hq0:0 < q) (hqu:IntKind.u64.wrap (q:Int) = (q:Int)) (HS:Hid (∀ (W:World),Num W a n x→Num W b k y→Calls Tryz.prog 26 #[.agg #[.bool s,.slice a n c,.slice b k l],.int .u32 (be:Int),.int .u64 (q:Int),.func (.func 28) #[] #[]] W fun en W'=>(∃ A N C A' N' C',en = .returned (.tuple #[.agg #[.bool g,.slice A N C,.slice A' N' C'],.int .i64 0])∧Mine W' W.heap.size A N C z∧Mine W' W.heap.size A' N' C' dn)∧Below W.heap.size W W')) (HC:Hid (∀ W:World,Num W a n x→Num W b k y→Calls Tryz.prog 15 #[.agg #[.bool s,.slice a n c,.slice b k l]] W fun e W'=>e = .returned (.int .i64 0)∧Below W.heap.size W W'))  :
  Calls Tryz.prog 8 #[.agg #[.bool s,.slice a n c,.slice b k l],.int .u32 (be:Int),.int .i64 (q:Int)] w fun en w'=>(∃ A N C A' N' C',en = .returned (.tuple #[.agg #[.bool g,.slice A N C,.slice A' N' C'],.int .i64 0])∧Mine w' w.heap.size A N C z∧Mine w' w.heap.size A' N' C' dn)∧Below w.heap.size w w':=by
 refine calls_sym Tryz.func8 rfl (by kernel_rfl) fun T hK=>?_
 replace hK:Kn T _ [(0,.agg #[.bool s,.slice a n c,.slice b k l]),(1,.int .u32 (be:Int)),(2,.int .i64 (q:Int))]:=hK
 have hS:=Fb.begin w
 have hG:GsAt [gN a n x,gN b k y] w:=⟨h1,h2,trivial⟩
 refine wq hS hG hK (fun p1=>[.n 3 #[.bool s,.slice a n c,.slice b k l] 30,.n 6 #[.bool false,.slice none 0 0,.slice none 0 0] 30,.v 7 (.int .i64 0)]) (fun p1=>[(1,.int .u32 (be:Int)),(2,.int .i64 (q:Int)),(3,pT (p1 0).N 0),(6,pT (p1 1).N 0),(7,.int .i64 0)]) (fun p1=>?_) (fun p1 W1 T hF hK=>?_)
 ·iterate 2 refine okn ?_
  refine okv ?_
  exact ok_nil
 replace hS:=SymF.fc hS hF [1000,1001] [⟨(p1 0).N,#[.bool s,.slice a n c,.slice b k l],30,true⟩,⟨(p1 1).N,#[.bool false,.slice none 0 0,.slice none 0 0],30,true⟩]
 replace hG:=hF.gx
 clear hF
 refine wp_seq ?_
 refine wq hS hG hK (fun p2=>[.l 9 (.agg #[.bool s,.slice a n c,.slice b k l]) 0 0,.c (some 10) (cV (.int .i64 0)),.v 8 (.int .i64 0)]) (fun p2=>[(1,.int .u32 (be:Int)),(2,.int .i64 (q:Int)),(3,pT (p1 0).N 0),(6,pT (p1 1).N 0),(7,.int .i64 0),(8,.int .i64 0)]) (fun p2=>?_) (fun p2 W2 T hF hK=>?_)
 ·refine okl ?_
  refine okc (fun W cx=>as_v (unhide HC _ (cx.G.1) (cx.G.2.1))) ?_
  refine okv ?_
  exact ok_nil
 obtain ⟨hS,hG⟩:=SymF.fg hS hF
 clear hF
 refine wq hS hG hK (fun p3=>[.v 11 (.int .i64 0),.v 12 (.bool false)]) (fun p3=>[(1,.int .u32 (be:Int)),(2,.int .i64 (q:Int)),(3,pT (p1 0).N 0),(6,pT (p1 1).N 0),(7,.int .i64 0),(8,.int .i64 0),(12,.bool false)]) (fun p3=>?_) (fun p3 W3 T hF hK=>?_)
 ·iterate 2 refine okv ?_
  exact ok_nil
 obtain ⟨hS,hG⟩:=SymF.fg hS hF
 clear hF
 refine wp_cond_false (hK.ew 12) (wp_skip ?_)
 refine then_n (wp_seq ?_)
 refine wq hS hG hK (fun p4=>[.v 15 (.int .u32 (be:Int)),.v 16 (.bool false),.v 17 (.bool false),.k (some 18),.k (some 19),.v 20 (.bool false)]) (fun p4=>[(1,.int .u32 (be:Int)),(2,.int .i64 (q:Int)),(3,pT (p1 0).N 0),(6,pT (p1 1).N 0),(7,.int .i64 0),(8,.int .i64 0),(20,.bool false)]) (fun p4=>?_) (fun p4 W4 T hF hK=>?_)
 ·refine okv ?_
  refine okvb (beq_false_of_ne (show (be:Int)≠0 by omega)) ?_
  refine okv ?_
  iterate 2 refine okk ?_
  refine okv ?_
  exact ok_nil
 obtain ⟨hS,hG⟩:=SymF.fg hS hF
 clear hF
 refine wp_cond_false (hK.ew 20) (wp_skip ?_)
 refine then_n (wp_seq ?_)
 refine wq hS hG hK (fun p5=>[.v 22 (.int .u32 (be:Int)),.v 23 (.bool false),.v 24 (.bool false),.k (some 25),.k (some 26),.v 27 (.bool false)]) (fun p5=>[(1,.int .u32 (be:Int)),(2,.int .i64 (q:Int)),(3,pT (p1 0).N 0),(6,pT (p1 1).N 0),(7,.int .i64 0),(8,.int .i64 0),(27,.bool false)]) (fun p5=>?_) (fun p5 W5 T hF hK=>?_)
 ·refine okv ?_
  refine okvb (beq_false_of_ne (show (be:Int)≠0 by omega)) ?_
  refine okv ?_
  iterate 2 refine okk ?_
  refine okv ?_
  exact ok_nil
 obtain ⟨hS,hG⟩:=SymF.fg hS hF
 clear hF
 refine wp_cond_false (hK.ew 27) (wp_skip ?_)
 refine then_n (wp_seq ?_)
 refine wq hS hG hK (fun p6=>[.v 29 (.int .u32 (be:Int)),.v 30 (.bool false),.v 31 (.bool false),.v 32 (.int .i64 (q:Int)),.v 33 (.bool false),.v 34 (.bool false),.v 35 (.bool false),.v 36 (pT (p1 0).N 1),.l 37 (.agg #[.slice a n c]) 0 1,.c (some 38) (cV (.bool false)),.v 39 (.bool false)]) (fun p6=>[(1,.int .u32 (be:Int)),(2,.int .i64 (q:Int)),(3,pT (p1 0).N 0),(6,pT (p1 1).N 0),(7,.int .i64 0),(8,.int .i64 0),(39,.bool false)]) (fun p6=>?_) (fun p6 W6 T hF hK=>?_)
 ·refine okv ?_
  refine okvb (decide_eq_false (show ¬ (be:Int)≤1 by omega)) ?_
  iterate 2 refine okv ?_
  refine okvb (beq_false_of_ne (show (q:Int)≠0 by omega)) ?_
  iterate 3 refine okv ?_
  refine okl ?_
  refine okc (fun W cx=>as_v (znought a _ c _ _ ((Num.zdec (cx.G.1)).trans (decide_eq_false hx)))) ?_
  refine okv ?_
  exact ok_nil
 obtain ⟨hS,hG⟩:=SymF.fg hS hF
 clear hF
 refine wp_cond_false (hK.ew 39) (wp_skip ?_)
 refine then_n (wp_seq ?_)
 refine wq hS hG hK (fun p7=>[.v 44 (.int .i64 (q:Int)),.v 45 (.bool false)]) (fun p7=>[(1,.int .u32 (be:Int)),(2,.int .i64 (q:Int)),(3,pT (p1 0).N 0),(6,pT (p1 1).N 0),(7,.int .i64 0),(8,.int .i64 0),(45,.bool false)]) (fun p7=>?_) (fun p7 W7 T hF hK=>?_)
 ·refine okv ?_
  refine okvb (decide_eq_false (show ¬ (q:Int) < 0 by omega)) ?_
  exact ok_nil
 obtain ⟨hS,hG⟩:=SymF.fg hS hF
 clear hF
 have z7:=hS.fr.size
 refine wp_cond_false (hK.ew 45) (wp_skip (then_n ?_))
 refine wq hS hG hK (fun p8=>[.l 54 (.agg #[.bool s,.slice a n c,.slice b k l]) 0 0,.v 55 (.int .u32 (be:Int)),.v 56 (.int .i64 (q:Int)),.v 57 (.int .u64 (q:Int)),.c (some 58) (cH W7.heap.size z dn fun x9 y9=>.tuple #[.agg #[.bool g,x9,y9],.int .i64 0]),.v 59 (.agg #[.bool g,.slice (p8 4).A (p8 4).N (p8 4).C,.slice (p8 4).A' (p8 4).N' (p8 4).C']),.v 60 (.int .i64 0),.p 1 0 [.bool g,.slice (p8 4).A (p8 4).N (p8 4).C,.slice (p8 4).A' (p8 4).N' (p8 4).C'],.v 7 (.int .i64 0)]) (fun p8=>[(1,.int .u32 (be:Int)),(2,.int .i64 (q:Int)),(3,pT (p1 0).N 0),(6,pT (p1 1).N 0),(7,.int .i64 0),(8,.int .i64 0)]) (fun p8=>?_) (fun p8 W8 T hF hK=>?_)
 ·refine okl ?_
  iterate 2 refine okv ?_
  refine okvi (hqu) ?_
  refine okc (fun W cx=>as_h cx.hb (unhide HS _ (cx.G.1) (cx.G.2.1))) ?_
  iterate 2 refine okv ?_
  refine okp ?_
  refine okv ?_
  exact ok_nil
 replace hS:=SymF.fc hS hF [0,1] [⟨(p1 0).N,#[.bool s,.slice a n c,.slice b k l],30,true⟩,⟨(p1 1).N,#[.bool g,.slice (p8 4).A (p8 4).N (p8 4).C,.slice (p8 4).A' (p8 4).N' (p8 4).C'],30,true⟩]
 replace hG:GsAt (gM W7.heap.size (p8 4).A (p8 4).N (p8 4).C z :: gM W7.heap.size (p8 4).A' (p8 4).N' (p8 4).C' dn :: _) W8:=⟨And.left (hF.fx 4),And.right (hF.fx 4),hF.gx⟩
 clear hF
 refine wp_ret ?_
 exact sym_end hS hK (.tuple #[.agg #[.bool g,.slice (p8 4).A (p8 4).N (p8 4).C,.slice (p8 4).A' (p8 4).N' (p8 4).C'],.int .i64 0]) [(1,0,3)] [.bool g,.slice (p8 4).A (p8 4).N (p8 4).C,.slice (p8 4).A' (p8 4).N' (p8 4).C'] (by kernel_rfl) (by kernel_rfl) ⟨⟨_,_,_,_,_,_,rfl,Mine.mono hG.1 z7,Mine.mono hG.2.1 z7⟩,hS.fr⟩
theorem zsca_m (w:World) (s:Bool) (a b:Option Addr) (n c k l x y:Nat) (g:Bool) (be q r9 z dn:Nat) (h1:Num w a n x) (h2:Num w b k y) (hbe:2≤be) (hx:x≠0) (hq0:0 < q) (hqr:IntKind.u64.wrap (-(q:Int)) = (r9:Int)) (hqu:IntKind.u64.wrap (0 - (r9:Int)) = (q:Int)) (HS:Hid (∀ (W:World),Num W a n x→Num W b k y→Calls Tryz.prog 26 #[.agg #[.bool s,.slice a n c,.slice b k l],.int .u32 (be:Int),.int .u64 (q:Int),.func (.func 27) #[] #[]] W fun en W'=>(∃ A N C A' N' C',en = .returned (.tuple #[.agg #[.bool g,.slice A N C,.slice A' N' C'],.int .i64 0])∧Mine W' W.heap.size A N C z∧Mine W' W.heap.size A' N' C' dn)∧Below W.heap.size W W')) (HC:Hid (∀ W:World,Num W a n x→Num W b k y→Calls Tryz.prog 15 #[.agg #[.bool s,.slice a n c,.slice b k l]] W fun e W'=>e = .returned (.int .i64 0)∧Below W.heap.size W W'))  :
  Calls Tryz.prog 8 #[.agg #[.bool s,.slice a n c,.slice b k l],.int .u32 (be:Int),.int .i64 (-(q:Int))] w fun en w'=>(∃ A N C A' N' C',en = .returned (.tuple #[.agg #[.bool g,.slice A N C,.slice A' N' C'],.int .i64 0])∧Mine w' w.heap.size A N C z∧Mine w' w.heap.size A' N' C' dn)∧Below w.heap.size w w':=by
 refine calls_sym Tryz.func8 rfl (by kernel_rfl) fun T hK=>?_
 replace hK:Kn T _ [(0,.agg #[.bool s,.slice a n c,.slice b k l]),(1,.int .u32 (be:Int)),(2,.int .i64 (-(q:Int)))]:=hK
 have hS:=Fb.begin w
 have hG:GsAt [gN a n x,gN b k y] w:=⟨h1,h2,trivial⟩
 refine wq hS hG hK (fun p1=>[.n 3 #[.bool s,.slice a n c,.slice b k l] 30,.n 6 #[.bool false,.slice none 0 0,.slice none 0 0] 30,.v 7 (.int .i64 0)]) (fun p1=>[(1,.int .u32 (be:Int)),(2,.int .i64 (-(q:Int))),(3,pT (p1 0).N 0),(6,pT (p1 1).N 0),(7,.int .i64 0)]) (fun p1=>?_) (fun p1 W1 T hF hK=>?_)
 ·iterate 2 refine okn ?_
  refine okv ?_
  exact ok_nil
 replace hS:=SymF.fc hS hF [1000,1001] [⟨(p1 0).N,#[.bool s,.slice a n c,.slice b k l],30,true⟩,⟨(p1 1).N,#[.bool false,.slice none 0 0,.slice none 0 0],30,true⟩]
 replace hG:=hF.gx
 clear hF
 refine wp_seq ?_
 refine wq hS hG hK (fun p2=>[.l 9 (.agg #[.bool s,.slice a n c,.slice b k l]) 0 0,.c (some 10) (cV (.int .i64 0)),.v 8 (.int .i64 0)]) (fun p2=>[(1,.int .u32 (be:Int)),(2,.int .i64 (-(q:Int))),(3,pT (p1 0).N 0),(6,pT (p1 1).N 0),(7,.int .i64 0),(8,.int .i64 0)]) (fun p2=>?_) (fun p2 W2 T hF hK=>?_)
 ·refine okl ?_
  refine okc (fun W cx=>as_v (unhide HC _ (cx.G.1) (cx.G.2.1))) ?_
  refine okv ?_
  exact ok_nil
 obtain ⟨hS,hG⟩:=SymF.fg hS hF
 clear hF
 refine wq hS hG hK (fun p3=>[.v 11 (.int .i64 0),.v 12 (.bool false)]) (fun p3=>[(1,.int .u32 (be:Int)),(2,.int .i64 (-(q:Int))),(3,pT (p1 0).N 0),(6,pT (p1 1).N 0),(7,.int .i64 0),(8,.int .i64 0),(12,.bool false)]) (fun p3=>?_) (fun p3 W3 T hF hK=>?_)
 ·iterate 2 refine okv ?_
  exact ok_nil
 obtain ⟨hS,hG⟩:=SymF.fg hS hF
 clear hF
 refine wp_cond_false (hK.ew 12) (wp_skip ?_)
 refine then_n (wp_seq ?_)
 refine wq hS hG hK (fun p4=>[.v 15 (.int .u32 (be:Int)),.v 16 (.bool false),.v 17 (.bool false),.k (some 18),.k (some 19),.v 20 (.bool false)]) (fun p4=>[(1,.int .u32 (be:Int)),(2,.int .i64 (-(q:Int))),(3,pT (p1 0).N 0),(6,pT (p1 1).N 0),(7,.int .i64 0),(8,.int .i64 0),(20,.bool false)]) (fun p4=>?_) (fun p4 W4 T hF hK=>?_)
 ·refine okv ?_
  refine okvb (beq_false_of_ne (show (be:Int)≠0 by omega)) ?_
  refine okv ?_
  iterate 2 refine okk ?_
  refine okv ?_
  exact ok_nil
 obtain ⟨hS,hG⟩:=SymF.fg hS hF
 clear hF
 refine wp_cond_false (hK.ew 20) (wp_skip ?_)
 refine then_n (wp_seq ?_)
 refine wq hS hG hK (fun p5=>[.v 22 (.int .u32 (be:Int)),.v 23 (.bool false),.v 24 (.bool false),.k (some 25),.k (some 26),.v 27 (.bool false)]) (fun p5=>[(1,.int .u32 (be:Int)),(2,.int .i64 (-(q:Int))),(3,pT (p1 0).N 0),(6,pT (p1 1).N 0),(7,.int .i64 0),(8,.int .i64 0),(27,.bool false)]) (fun p5=>?_) (fun p5 W5 T hF hK=>?_)
 ·refine okv ?_
  refine okvb (beq_false_of_ne (show (be:Int)≠0 by omega)) ?_
  refine okv ?_
  iterate 2 refine okk ?_
  refine okv ?_
  exact ok_nil
 obtain ⟨hS,hG⟩:=SymF.fg hS hF
 clear hF
 refine wp_cond_false (hK.ew 27) (wp_skip ?_)
 refine then_n (wp_seq ?_)
 refine wq hS hG hK (fun p6=>[.v 29 (.int .u32 (be:Int)),.v 30 (.bool false),.v 31 (.bool false),.v 32 (.int .i64 (-(q:Int))),.v 33 (.bool false),.v 34 (.bool false),.v 35 (.bool false),.v 36 (pT (p1 0).N 1),.l 37 (.agg #[.slice a n c]) 0 1,.c (some 38) (cV (.bool false)),.v 39 (.bool false)]) (fun p6=>[(1,.int .u32 (be:Int)),(2,.int .i64 (-(q:Int))),(3,pT (p1 0).N 0),(6,pT (p1 1).N 0),(7,.int .i64 0),(8,.int .i64 0),(39,.bool false)]) (fun p6=>?_) (fun p6 W6 T hF hK=>?_)
 ·refine okv ?_
  refine okvb (decide_eq_false (show ¬ (be:Int)≤1 by omega)) ?_
  iterate 2 refine okv ?_
  refine okvb (beq_false_of_ne (show (-(q:Int))≠0 by omega)) ?_
  iterate 3 refine okv ?_
  refine okl ?_
  refine okc (fun W cx=>as_v (znought a _ c _ _ ((Num.zdec (cx.G.1)).trans (decide_eq_false hx)))) ?_
  refine okv ?_
  exact ok_nil
 obtain ⟨hS,hG⟩:=SymF.fg hS hF
 clear hF
 refine wp_cond_false (hK.ew 39) (wp_skip ?_)
 refine then_n (wp_seq ?_)
 refine wq hS hG hK (fun p7=>[.v 44 (.int .i64 (-(q:Int))),.v 45 (.bool true)]) (fun p7=>[(1,.int .u32 (be:Int)),(2,.int .i64 (-(q:Int))),(3,pT (p1 0).N 0),(6,pT (p1 1).N 0),(7,.int .i64 0),(8,.int .i64 0),(45,.bool true)]) (fun p7=>?_) (fun p7 W7 T hF hK=>?_)
 ·refine okv ?_
  refine okvb (decide_eq_true (show (-(q:Int)) < 0 by omega)) ?_
  exact ok_nil
 obtain ⟨hS,hG⟩:=SymF.fg hS hF
 clear hF
 have z7:=hS.fr.size
 refine wp_cond_true (hK.ew 45) ?_
 refine wq hS hG hK (fun p8=>[.l 46 (.agg #[.bool s,.slice a n c,.slice b k l]) 0 0,.v 47 (.int .u32 (be:Int)),.v 48 (.int .i64 (-(q:Int))),.v 49 (.int .u64 (r9:Int)),.v 50 (.int .u64 (q:Int)),.c (some 51) (cH W7.heap.size z dn fun x9 y9=>.tuple #[.agg #[.bool g,x9,y9],.int .i64 0]),.v 52 (.agg #[.bool g,.slice (p8 5).A (p8 5).N (p8 5).C,.slice (p8 5).A' (p8 5).N' (p8 5).C']),.v 53 (.int .i64 0),.p 1 0 [.bool g,.slice (p8 5).A (p8 5).N (p8 5).C,.slice (p8 5).A' (p8 5).N' (p8 5).C'],.v 7 (.int .i64 0)]) (fun p8=>[(1,.int .u32 (be:Int)),(2,.int .i64 (-(q:Int))),(3,pT (p1 0).N 0),(6,pT (p1 1).N 0),(7,.int .i64 0),(8,.int .i64 0)]) (fun p8=>?_) (fun p8 W8 T hF hK=>?_)
 ·refine okl ?_
  iterate 2 refine okv ?_
  refine okvi (hqr) ?_
  refine okvi (hqu) ?_
  refine okc (fun W cx=>as_h cx.hb (unhide HS _ (cx.G.1) (cx.G.2.1))) ?_
  iterate 2 refine okv ?_
  refine okp ?_
  refine okv ?_
  exact ok_nil
 replace hS:=SymF.fc hS hF [0,1] [⟨(p1 0).N,#[.bool s,.slice a n c,.slice b k l],30,true⟩,⟨(p1 1).N,#[.bool g,.slice (p8 5).A (p8 5).N (p8 5).C,.slice (p8 5).A' (p8 5).N' (p8 5).C'],30,true⟩]
 replace hG:GsAt (gM W7.heap.size (p8 5).A (p8 5).N (p8 5).C z :: gM W7.heap.size (p8 5).A' (p8 5).N' (p8 5).C' dn :: _) W8:=⟨And.left (hF.fx 5),And.right (hF.fx 5),hF.gx⟩
 clear hF
 refine wp_ret ?_
 refine then_r ?_
 exact sym_end hS hK (.tuple #[.agg #[.bool g,.slice (p8 5).A (p8 5).N (p8 5).C,.slice (p8 5).A' (p8 5).N' (p8 5).C'],.int .i64 0]) [(1,0,3)] [.bool g,.slice (p8 5).A (p8 5).N (p8 5).C,.slice (p8 5).A' (p8 5).N' (p8 5).C'] (by kernel_rfl) (by kernel_rfl) ⟨⟨_,_,_,_,_,_,rfl,Mine.mono hG.1 z7,Mine.mono hG.2.1 z7⟩,hS.fr⟩
theorem zwhole_1 (w:World)   :
  Calls Tryz.prog 9 #[.int .i64 1] w fun en w'=>(∃ A N C A' N' C',en = .returned (.agg #[.bool false,.slice A N C,.slice A' N' C'])∧Mine w' w.heap.size A N C 1∧Mine w' w.heap.size A' N' C' 1)∧Below w.heap.size w w':=by
 refine calls_sym Tryz.func9 rfl (by kernel_rfl) fun T hK=>?_
 replace hK:Kn T _ [(0,.int .i64 1)]:=hK
 have hS:=Fb.begin w
 have hG:GsAt [] w:=trivial
 refine wq hS hG hK (fun p1=>[.n 2 #[.bool false,.slice none 0 0,.slice none 0 0] 30]) (fun p1=>[(0,.int .i64 1),(2,pT (p1 0).N 0)]) (fun p1=>?_) (fun p1 W1 T hF hK=>?_)
 ·refine okn ?_
  exact ok_nil
 replace hS:=SymF.fc hS hF [1000] [⟨(p1 0).N,#[.bool false,.slice none 0 0,.slice none 0 0],30,true⟩]
 replace hG:=hF.gx
 clear hF
 refine wq hS hG hK (fun p2=>[.v 4 (.int .i64 1),.v 5 (.int .u64 1),.v 3 (.int .u64 1)]) (fun p2=>[(0,.int .i64 1),(2,pT (p1 0).N 0),(3,.int .u64 1)]) (fun p2=>?_) (fun p2 W2 T hF hK=>?_)
 ·iterate 3 refine okv ?_
  exact ok_nil
 obtain ⟨hS,hG⟩:=SymF.fg hS hF
 clear hF
 refine wp_seq ?_
 refine wq hS hG hK (fun p3=>[.v 6 (.int .i64 1),.v 7 (.bool false)]) (fun p3=>[(0,.int .i64 1),(2,pT (p1 0).N 0),(3,.int .u64 1),(7,.bool false)]) (fun p3=>?_) (fun p3 W3 T hF hK=>?_)
 ·iterate 2 refine okv ?_
  exact ok_nil
 obtain ⟨hS,hG⟩:=SymF.fg hS hF
 clear hF
 have z3:=hS.fr.size
 refine wp_cond_false (hK.ew 7) (wp_skip (then_n ?_))
 refine wq hS hG hK (fun p4=>[.v 10 (.int .i64 1),.v 11 (.bool false),.v 12 (.int .u64 1),.c (some 13) (cN W3.heap.size 1),.c (some 14) (cN W3.heap.size 1),.v 15 (.agg #[.bool false,.slice (p4 3).A (p4 3).N (p4 3).C,.slice (p4 4).A (p4 4).N (p4 4).C]),.p 0 0 [.bool false,.slice (p4 3).A (p4 3).N (p4 3).C,.slice (p4 4).A (p4 4).N (p4 4).C]]) (fun p4=>[(2,pT (p1 0).N 0),(3,.int .u64 1)]) (fun p4=>?_) (fun p4 W4 T hF hK=>?_)
 ·iterate 3 refine okv ?_
  iterate 2 refine okc (fun W cx=>as_n cx.hb (of_any 1 _ (by decide))) ?_
  refine okv ?_
  refine okp ?_
  exact ok_nil
 replace hS:=SymF.fc hS hF [0] [⟨(p1 0).N,#[.bool false,.slice (p4 3).A (p4 3).N (p4 3).C,.slice (p4 4).A (p4 4).N (p4 4).C],30,true⟩]
 replace hG:GsAt (gM W3.heap.size (p4 3).A (p4 3).N (p4 3).C 1 :: gM W3.heap.size (p4 4).A (p4 4).N (p4 4).C 1 :: _) W4:=⟨hF.fx 3,hF.fx 4,hF.gx⟩
 clear hF
 refine wp_ret ?_
 exact sym_end hS hK (.agg #[.bool false,.slice (p4 3).A (p4 3).N (p4 3).C,.slice (p4 4).A (p4 4).N (p4 4).C]) [(0,0,3)] [.bool false,.slice (p4 3).A (p4 3).N (p4 3).C,.slice (p4 4).A (p4 4).N (p4 4).C] (by kernel_rfl) (by kernel_rfl) ⟨⟨_,_,_,_,_,_,rfl,Mine.mono hG.1 z3,Mine.mono hG.2.1 z3⟩,hS.fr⟩
end Go.Proofs.YtcfccblpcngeaaaGreat
