/- Of what RoundMirrorRow stands on: STen STenC STenD. -/
import Derived.Test.YtbbhlfngjoongaaGreatDoorPbf
import Derived.Test.YtbbhlfngjoongaaGreatDoorPbc
namespace Go.Proofs.YtbbhlfngjoongaaGreatDoor
open Go.RowKit
set_option maxHeartbeats 2000000
set_option maxRecDepth 20000
def HPow1:Prop:=∀ W:World,Calls Tryz.prog 66 #[.int .u32 5,.int .i64 1] W fun en W'=>(∃ a n c,en = .returned (.tuple #[.agg #[.slice a n c],.int .i64 0])∧Mine W' W.heap.size a n c 5)∧Below W.heap.size W W'
theorem ssize_is_p (w:World) (p:Nat) (s:Bool) (a b:Option Addr) (n c k l x y i j:Nat) (sz:Int) (hk:Rn w p 0) (h1:Num w a n x) (h2:Num w b k y) (hi:i≤524288) (hj:j≤524288) (hz:(i:Int) - (j:Int)+3 = sz) (HB1:Hid (HBits x i)) (HB2:Hid (HBits y j)) :
  Calls Tryz.prog 79 #[.pointer (some ⟨p,0,none⟩),.agg #[.bool s,.slice a n c,.slice b k l],.int .i64 1] w fun en w'=>en = .returned (.int .i64 sz)∧Below w.heap.size w w':=by
 obtain ⟨cs9,t9_,hp,hp0⟩:=hk
 refine calls_sym Tryz.func79 rfl (by kernel_rfl) fun T hK=>?_
 replace hK:Kn T _ [(0,.pointer (some ⟨p,0,none⟩)),(1,.agg #[.bool s,.slice a n c,.slice b k l]),(2,.int .i64 1)]:=hK
 have hS:=Fb.other hp
 have hG:GsAt [gN a n x,gN b k y] w:=⟨h1,h2,trivial⟩
 refine wp_symQ hS hG hK (fun p1=>[.n 4 #[.bool s,.slice a n c,.slice b k l] 35,.v 6 (.int .i64 0)]) (fun p1=>[(0,.pointer (some ⟨p,0,none⟩)),(2,.int .i64 1),(4,.pointer (some ⟨(p1 0).N,0,none⟩)),(6,.int .i64 0)]) (by kernel_rfl) (fun _ _=>by kernel_rfl) (fun _=>by kernel_rfl) (fun _=>by kernel_rfl) (fun p1=>?_) (fun p1 W1 T hF hK=>?_)
 ·refine ok_n (fun _=>by kernel_rfl) ?_
  refine ok_v (by kernel_rfl) ?_
  exact ok_nil
 replace hS:=SymF.fb hS hF [0,1000] [⟨p,cs9,t9_,false⟩,⟨(p1 0).N,#[.bool s,.slice a n c,.slice b k l],35,true⟩] (by kernel_rfl) (by kernel_rfl)
 replace hG:=hF.gx
 clear hF
 have z1:=hS.fr.size
 refine wp_symQ hS hG hK (fun p2=>[.v 7 (.int .i64 1),.v 8 (.int .i64 1),.v 9 (.int .i64 1),.v 2 (.int .i64 1)]) (fun p2=>[(0,.pointer (some ⟨p,0,none⟩)),(2,.int .i64 1),(4,.pointer (some ⟨(p1 0).N,0,none⟩)),(6,.int .i64 0)]) (by kernel_rfl) (fun _ _=>by kernel_rfl) (fun _=>by kernel_rfl) (fun _=>by kernel_rfl) (fun p2=>?_) (fun p2 W2 T hF hK=>?_)
 ·iterate 4 refine ok_v (by kernel_rfl) ?_
  exact ok_nil
 replace hS:=SymF.fb hS hF [0,1] [⟨p,cs9,t9_,false⟩,⟨(p1 0).N,#[.bool s,.slice a n c,.slice b k l],35,true⟩] (by kernel_rfl) (by kernel_rfl)
 replace hG:=hF.gx
 clear hF
 have z2:=hS.fr.size
 refine wp_symQ hS hG hK (fun p3=>[.v 10 (.pointer (some ⟨p,0,none⟩)),.v 11 (.pointer (some ⟨p,0,none⟩)),.v 12 (.pointer (some ⟨p,0,none⟩)),.v 13 (.pointer (some ⟨(p1 0).N,1,none⟩)),.l 14 (.agg #[.slice a n c]) 1 1,.c (some 15) (cV (.tuple #[.int .i64 (i:Int),.int .i64 0])),.v 16 (.int .i64 (i:Int)),.v 17 (.int .i64 0),.u 18 (.int .i64 (i:Int)) (aG 1),.v 19 (.pointer (some ⟨p,0,none⟩)),.v 20 (.pointer (some ⟨p,0,none⟩)),.v 21 (.pointer (some ⟨p,0,none⟩)),.v 22 (.pointer (some ⟨(p1 0).N,2,none⟩)),.l 23 (.agg #[.slice b k l]) 1 2,.c (some 24) (cV (.tuple #[.int .i64 (j:Int),.int .i64 0])),.v 25 (.int .i64 (j:Int)),.v 26 (.int .i64 0),.u 27 (.int .i64 (j:Int)) (aG 1),.v 28 (.int .i64 ((i:Int) - (j:Int))),.v 29 (.int .i64 1),.v 30 (.int .i64 3321928),.v 31 (.int .i64 3),.v 32 (.int .i64 sz),.v 6 (.int .i64 sz)]) (fun p3=>[(6,.int .i64 sz)]) (by kernel_rfl) (fun _ _=>by kernel_rfl) (fun _=>by kernel_rfl) (fun _=>by kernel_rfl) (fun p3=>?_) (fun p3 W3 T hF hK=>?_)
 ·iterate 4 refine ok_v (by kernel_rfl) ?_
  refine ok_L (by kernel_rfl) (by kernel_rfl) (by kernel_rfl) ?_
  refine ok_c (fun W cx=>as_v (unhide HB1 _ _ _ c (cx.G.1))) (by kernel_rfl) ?_
  iterate 2 refine ok_v (by kernel_rfl) ?_
  refine ok_u (fun W cx=>runInt_0 p 0 _ _ ⟨_,_,cx.B 0 _ rfl (by kernel_rfl) (by kernel_rfl),hp0⟩) (by kernel_rfl) (by kernel_rfl) ?_
  iterate 4 refine ok_v (by kernel_rfl) ?_
  refine ok_L (by kernel_rfl) (by kernel_rfl) (by kernel_rfl) ?_
  refine ok_c (fun W cx=>as_v (unhide HB2 _ _ _ l (cx.G.2.1))) (by kernel_rfl) ?_
  iterate 2 refine ok_v (by kernel_rfl) ?_
  refine ok_u (fun W cx=>runInt_0 p 0 _ _ ⟨_,_,cx.B 0 _ rfl (by kernel_rfl) (by kernel_rfl),hp0⟩) (by kernel_rfl) (by kernel_rfl) ?_
  refine ok_vi (wr64 (x:=(i:Int) - (j:Int)) (by omega) (by omega)) (by kernel_rfl) ?_
  iterate 3 refine ok_v (by kernel_rfl) ?_
  refine ok_vi ((wr64 (x:=(i:Int) - (j:Int)+3) (by omega) (by omega)).trans hz) (by kernel_rfl) ?_
  refine ok_v (by kernel_rfl) ?_
  exact ok_nil
 replace hS:=SymF.fb hS hF [0] [⟨p,cs9,t9_,false⟩] (by kernel_rfl) (by kernel_rfl)
 replace hG:=hF.gx
 clear hF
 have z3:=hS.fr.size
 refine wp_ret ?_
 exact sym_end hS hK (.int .i64 sz) [] [] (by kernel_rfl) (by kernel_rfl) ⟨rfl,hS.fr⟩
theorem sscal_is_p (w:World) (p:Nat) (s:Bool) (a b:Option Addr) (n c k l x y:Nat) (hk:Rn w p 0) (h1:Num w a n x) (h2:Num w b k y) (HP:Hid (HPow1)) :
  Calls Tryz.prog 80 #[.pointer (some ⟨p,0,none⟩),.agg #[.bool s,.slice a n c,.slice b k l],.int .i64 1] w fun en w'=>(∃ A N C A' N' C',en = .returned (.agg #[.slice a n c,.slice A N C,.slice b k l,.slice A' N' C',.int .i64 1])∧Mine w' w.heap.size A N C 5∧Mine w' w.heap.size A' N' C' 1)∧Below w.heap.size w w':=by
 obtain ⟨cs9,t9_,hp,hp0⟩:=hk
 refine calls_sym Tryz.func80 rfl (by kernel_rfl) fun T hK=>?_
 replace hK:Kn T _ [(0,.pointer (some ⟨p,0,none⟩)),(1,.agg #[.bool s,.slice a n c,.slice b k l]),(2,.int .i64 1)]:=hK
 have hS:=Fb.other hp
 have hG:GsAt [gN a n x,gN b k y] w:=⟨h1,h2,trivial⟩
 refine wp_symQ hS hG hK (fun p1=>[.n 4 #[.bool s,.slice a n c,.slice b k l] 35,.n 6 #[.slice none 0 0,.slice none 0 0,.slice none 0 0,.slice none 0 0,.int .i64 0] 133]) (fun p1=>[(0,.pointer (some ⟨p,0,none⟩)),(2,.int .i64 1),(4,.pointer (some ⟨(p1 0).N,0,none⟩)),(6,.pointer (some ⟨(p1 1).N,0,none⟩))]) (by kernel_rfl) (fun _ _=>by kernel_rfl) (fun _=>by kernel_rfl) (fun _=>by kernel_rfl) (fun p1=>?_) (fun p1 W1 T hF hK=>?_)
 ·iterate 2 refine ok_n (fun _=>by kernel_rfl) ?_
  exact ok_nil
 replace hS:=SymF.fb hS hF [0,1000,1001] [⟨p,cs9,t9_,false⟩,⟨(p1 0).N,#[.bool s,.slice a n c,.slice b k l],35,true⟩,⟨(p1 1).N,#[.slice none 0 0,.slice none 0 0,.slice none 0 0,.slice none 0 0,.int .i64 0],133,true⟩] (by kernel_rfl) (by kernel_rfl)
 replace hG:=hF.gx
 clear hF
 have z1:=hS.fr.size
 refine wp_symQ hS hG hK (fun p2=>[.c (some 10) (cN W1.heap.size 1),.n 7 #[.slice none 0 0] 28,.p 1001 0 [.slice (p2 0).A (p2 0).N (p2 0).C]]) (fun p2=>[(0,.pointer (some ⟨p,0,none⟩)),(2,.int .i64 1),(4,.pointer (some ⟨(p1 0).N,0,none⟩)),(6,.pointer (some ⟨(p1 1).N,0,none⟩)),(7,.pointer (some ⟨(p2 1).N,0,none⟩))]) (by kernel_rfl) (fun _ _=>by kernel_rfl) (fun _=>by kernel_rfl) (fun _=>by kernel_rfl) (fun p2=>?_) (fun p2 W2 T hF hK=>?_)
 ·refine ok_c (fun W cx=>as_n cx.hb (of_any 1 _ (by decide))) (by kernel_rfl) ?_
  refine ok_n (fun _=>by kernel_rfl) ?_
  refine ok_P (by kernel_rfl) (by kernel_rfl) (by kernel_rfl) ?_
  exact ok_nil
 replace hS:=SymF.fb hS hF [0,1,2,1001] [⟨p,cs9,t9_,false⟩,⟨(p1 0).N,#[.bool s,.slice a n c,.slice b k l],35,true⟩,⟨(p1 1).N,#[.slice none 0 0,.slice none 0 0,.slice none 0 0,.slice none 0 0,.int .i64 0],133,true⟩,⟨(p2 1).N,#[.slice (p2 0).A (p2 0).N (p2 0).C],28,true⟩] (by kernel_rfl) (by kernel_rfl)
 replace hG:GsAt (gM W1.heap.size (p2 0).A (p2 0).N (p2 0).C 1 :: _) W2:=⟨hF.fx 0,hF.gx⟩
 clear hF
 have z2:=hS.fr.size
 refine wp_symQ hS hG hK (fun p3=>[.v 11 (.pointer (some ⟨(p1 0).N,1,none⟩)),.l 12 (.agg #[.slice a n c]) 1 1,.l 13 (.agg #[.slice (p2 0).A (p2 0).N (p2 0).C]) 3 0,.v 14 (.pointer (some ⟨(p1 0).N,2,none⟩)),.l 15 (.agg #[.slice b k l]) 1 2,.l 16 (.agg #[.slice (p2 0).A (p2 0).N (p2 0).C]) 3 0,.v 17 (.int .i64 1),.v 18 (.agg #[.slice a n c,.slice (p2 0).A (p2 0).N (p2 0).C,.slice b k l,.slice (p2 0).A (p2 0).N (p2 0).C,.int .i64 1]),.n 8 #[.slice none 0 0,.slice none 0 0,.slice none 0 0,.slice none 0 0,.int .i64 0] 133,.p 1008 0 [.slice a n c,.slice (p2 0).A (p2 0).N (p2 0).C,.slice b k l,.slice (p2 0).A (p2 0).N (p2 0).C,.int .i64 1]]) (fun p3=>[(0,.pointer (some ⟨p,0,none⟩)),(2,.int .i64 1),(4,.pointer (some ⟨(p1 0).N,0,none⟩)),(6,.pointer (some ⟨(p1 1).N,0,none⟩)),(8,.pointer (some ⟨(p3 8).N,0,none⟩))]) (by kernel_rfl) (fun _ _=>by kernel_rfl) (fun _=>by kernel_rfl) (fun _=>by kernel_rfl) (fun p3=>?_) (fun p3 W3 T hF hK=>?_)
 ·refine ok_v (by kernel_rfl) ?_
  iterate 2 refine ok_L (by kernel_rfl) (by kernel_rfl) (by kernel_rfl) ?_
  refine ok_v (by kernel_rfl) ?_
  iterate 2 refine ok_L (by kernel_rfl) (by kernel_rfl) (by kernel_rfl) ?_
  iterate 2 refine ok_v (by kernel_rfl) ?_
  refine ok_n (fun _=>by kernel_rfl) ?_
  refine ok_P (by kernel_rfl) (by kernel_rfl) (by kernel_rfl) ?_
  exact ok_nil
 replace hS:=SymF.fb hS hF [0,1,2,1008] [⟨p,cs9,t9_,false⟩,⟨(p1 0).N,#[.bool s,.slice a n c,.slice b k l],35,true⟩,⟨(p1 1).N,#[.slice none 0 0,.slice none 0 0,.slice none 0 0,.slice none 0 0,.int .i64 0],133,true⟩,⟨(p3 8).N,#[.slice a n c,.slice (p2 0).A (p2 0).N (p2 0).C,.slice b k l,.slice (p2 0).A (p2 0).N (p2 0).C,.int .i64 1],133,true⟩] (by kernel_rfl) (by kernel_rfl)
 replace hG:=hF.gx
 clear hF
 have z3:=hS.fr.size
 refine wp_symQ hS hG hK (fun p4=>[.v 19 (.pointer (some ⟨p,0,none⟩)),.v 20 (.pointer (some ⟨p,0,none⟩)),.v 21 (.pointer (some ⟨p,0,none⟩)),.v 22 (.int .i64 1),.v 23 (.int .i64 1),.v 24 (.int .i64 (-1)),.v 25 (.int .i64 1),.c (some 26) (cO W3.heap.size 5),.v 27 (.agg #[.slice (p4 7).A (p4 7).N (p4 7).C]),.v 28 (.int .i64 0),.u 29 (.agg #[.slice (p4 7).A (p4 7).N (p4 7).C]) (aG 1),.n 9 #[.slice none 0 0] 28,.p 1011 0 [.slice (p4 7).A (p4 7).N (p4 7).C]]) (fun p4=>[(0,.pointer (some ⟨p,0,none⟩)),(2,.int .i64 1),(4,.pointer (some ⟨(p1 0).N,0,none⟩)),(6,.pointer (some ⟨(p1 1).N,0,none⟩)),(8,.pointer (some ⟨(p3 8).N,0,none⟩)),(9,.pointer (some ⟨(p4 11).N,0,none⟩))]) (by kernel_rfl) (fun _ _=>by kernel_rfl) (fun _=>by kernel_rfl) (fun _=>by kernel_rfl) (fun p4=>?_) (fun p4 W4 T hF hK=>?_)
 ·iterate 7 refine ok_v (by kernel_rfl) ?_
  refine ok_c (fun W cx=>as_o cx.hb (unhide HP _)) (by kernel_rfl) ?_
  iterate 2 refine ok_v (by kernel_rfl) ?_
  refine ok_u (fun W cx=>runNat_0 p 0 _ _ _ _ ⟨_,_,cx.B 0 _ rfl (by kernel_rfl) (by kernel_rfl),hp0⟩) (by kernel_rfl) (by kernel_rfl) ?_
  refine ok_n (fun _=>by kernel_rfl) ?_
  refine ok_P (by kernel_rfl) (by kernel_rfl) (by kernel_rfl) ?_
  exact ok_nil
 replace hS:=SymF.fb hS hF [0,1,2,3,1011] [⟨p,cs9,t9_,false⟩,⟨(p1 0).N,#[.bool s,.slice a n c,.slice b k l],35,true⟩,⟨(p1 1).N,#[.slice none 0 0,.slice none 0 0,.slice none 0 0,.slice none 0 0,.int .i64 0],133,true⟩,⟨(p3 8).N,#[.slice a n c,.slice (p2 0).A (p2 0).N (p2 0).C,.slice b k l,.slice (p2 0).A (p2 0).N (p2 0).C,.int .i64 1],133,true⟩,⟨(p4 11).N,#[.slice (p4 7).A (p4 7).N (p4 7).C],28,true⟩] (by kernel_rfl) (by kernel_rfl)
 replace hG:GsAt (gM W3.heap.size (p4 7).A (p4 7).N (p4 7).C 5 :: _) W4:=⟨hF.fx 7,hF.gx⟩
 clear hF
 have z4:=hS.fr.size
 refine wp_seq ?_
 refine wp_block ?_
 refine wp_symQ hS hG hK (fun p5=>[.v 33 (.int .i64 1),.v 34 (.bool false),.v 32 (.bool false)]) (fun p5=>[(0,.pointer (some ⟨p,0,none⟩)),(2,.int .i64 1),(4,.pointer (some ⟨(p1 0).N,0,none⟩)),(6,.pointer (some ⟨(p1 1).N,0,none⟩)),(8,.pointer (some ⟨(p3 8).N,0,none⟩)),(9,.pointer (some ⟨(p4 11).N,0,none⟩)),(32,.bool false)]) (by kernel_rfl) (fun _ _=>by kernel_rfl) (fun _=>by kernel_rfl) (fun _=>by kernel_rfl) (fun p5=>?_) (fun p5 W5 T hF hK=>?_)
 ·iterate 3 refine ok_v (by kernel_rfl) ?_
  exact ok_nil
 replace hS:=SymF.fb hS hF [0,1,2,3,4] [⟨p,cs9,t9_,false⟩,⟨(p1 0).N,#[.bool s,.slice a n c,.slice b k l],35,true⟩,⟨(p1 1).N,#[.slice none 0 0,.slice none 0 0,.slice none 0 0,.slice none 0 0,.int .i64 0],133,true⟩,⟨(p3 8).N,#[.slice a n c,.slice (p2 0).A (p2 0).N (p2 0).C,.slice b k l,.slice (p2 0).A (p2 0).N (p2 0).C,.int .i64 1],133,true⟩,⟨(p4 11).N,#[.slice (p4 7).A (p4 7).N (p4 7).C],28,true⟩] (by kernel_rfl) (by kernel_rfl)
 replace hG:=hF.gx
 clear hF
 have z5:=hS.fr.size
 refine wp_cond_false (hK.ev 32 (by kernel_rfl) _ (by kernel_rfl)) ?_
 refine wp_symQ hS hG hK (fun p6=>[.v 38 (.int .i64 1),.v 39 (.bool false),.v 37 (.bool false)]) (fun p6=>[(0,.pointer (some ⟨p,0,none⟩)),(4,.pointer (some ⟨(p1 0).N,0,none⟩)),(6,.pointer (some ⟨(p1 1).N,0,none⟩)),(8,.pointer (some ⟨(p3 8).N,0,none⟩)),(9,.pointer (some ⟨(p4 11).N,0,none⟩)),(32,.bool false),(37,.bool false)]) (by kernel_rfl) (fun _ _=>by kernel_rfl) (fun _=>by kernel_rfl) (fun _=>by kernel_rfl) (fun p6=>?_) (fun p6 W6 T hF hK=>?_)
 ·iterate 3 refine ok_v (by kernel_rfl) ?_
  exact ok_nil
 replace hS:=SymF.fb hS hF [0,1,2,3,4] [⟨p,cs9,t9_,false⟩,⟨(p1 0).N,#[.bool s,.slice a n c,.slice b k l],35,true⟩,⟨(p1 1).N,#[.slice none 0 0,.slice none 0 0,.slice none 0 0,.slice none 0 0,.int .i64 0],133,true⟩,⟨(p3 8).N,#[.slice a n c,.slice (p2 0).A (p2 0).N (p2 0).C,.slice b k l,.slice (p2 0).A (p2 0).N (p2 0).C,.int .i64 1],133,true⟩,⟨(p4 11).N,#[.slice (p4 7).A (p4 7).N (p4 7).C],28,true⟩] (by kernel_rfl) (by kernel_rfl)
 replace hG:=hF.gx
 clear hF
 have z6:=hS.fr.size
 refine wp_cond_false (hK.ev 37 (by kernel_rfl) _ (by kernel_rfl)) ?_
 refine wp_symG hS hG hK (fun p7=>[.l 30 (.agg #[.slice (p4 7).A (p4 7).N (p4 7).C]) 4 0,.v 31 (.pointer (some ⟨(p3 8).N,1,none⟩)),.p 3 1 [.slice (p4 7).A (p4 7).N (p4 7).C]]) (fun p7=>[(0,.pointer (some ⟨p,0,none⟩)),(4,.pointer (some ⟨(p1 0).N,0,none⟩)),(6,.pointer (some ⟨(p1 1).N,0,none⟩)),(8,.pointer (some ⟨(p3 8).N,0,none⟩)),(9,.pointer (some ⟨(p4 11).N,0,none⟩)),(32,.bool false),(37,.bool false)]) (by kernel_rfl) (fun _ _=>by kernel_rfl) (fun _=>by kernel_rfl) (fun _=>by kernel_rfl) (fun p7=>?_) (fun p7 W7 T hF hK=>?_)
 ·refine ok_L (by kernel_rfl) (by kernel_rfl) (by kernel_rfl) ?_
  refine ok_v (by kernel_rfl) ?_
  refine ok_P (by kernel_rfl) (by kernel_rfl) (by kernel_rfl) ?_
  exact ok_nil
 replace hS:=SymF.fb hS hF [0,1,2,3,4] [⟨p,cs9,t9_,false⟩,⟨(p1 0).N,#[.bool s,.slice a n c,.slice b k l],35,true⟩,⟨(p1 1).N,#[.slice none 0 0,.slice none 0 0,.slice none 0 0,.slice none 0 0,.int .i64 0],133,true⟩,⟨(p3 8).N,#[.slice a n c,.slice (p4 7).A (p4 7).N (p4 7).C,.slice b k l,.slice (p2 0).A (p2 0).N (p2 0).C,.int .i64 1],133,true⟩,⟨(p4 11).N,#[.slice (p4 7).A (p4 7).N (p4 7).C],28,true⟩] (by kernel_rfl) (by kernel_rfl)
 replace hG:=hF.gx
 clear hF
 have z7:=hS.fr.size
 refine inb_n ?_
 refine then_n ?_
 refine wp_symQ hS hG hK (fun p8=>[.l 51 (.agg #[.slice a n c,.slice (p4 7).A (p4 7).N (p4 7).C,.slice b k l,.slice (p2 0).A (p2 0).N (p2 0).C,.int .i64 1]) 3 0,.p 2 0 [.slice a n c,.slice (p4 7).A (p4 7).N (p4 7).C,.slice b k l,.slice (p2 0).A (p2 0).N (p2 0).C,.int .i64 1]]) (fun p8=>[(0,.pointer (some ⟨p,0,none⟩)),(4,.pointer (some ⟨(p1 0).N,0,none⟩)),(6,.pointer (some ⟨(p1 1).N,0,none⟩)),(8,.pointer (some ⟨(p3 8).N,0,none⟩)),(9,.pointer (some ⟨(p4 11).N,0,none⟩)),(32,.bool false),(37,.bool false)]) (by kernel_rfl) (fun _ _=>by kernel_rfl) (fun _=>by kernel_rfl) (fun _=>by kernel_rfl) (fun p8=>?_) (fun p8 W8 T hF hK=>?_)
 ·refine ok_L (by kernel_rfl) (by kernel_rfl) (by kernel_rfl) ?_
  refine ok_P (by kernel_rfl) (by kernel_rfl) (by kernel_rfl) ?_
  exact ok_nil
 replace hS:=SymF.fb hS hF [0,1,2,3,4] [⟨p,cs9,t9_,false⟩,⟨(p1 0).N,#[.bool s,.slice a n c,.slice b k l],35,true⟩,⟨(p1 1).N,#[.slice a n c,.slice (p4 7).A (p4 7).N (p4 7).C,.slice b k l,.slice (p2 0).A (p2 0).N (p2 0).C,.int .i64 1],133,true⟩,⟨(p3 8).N,#[.slice a n c,.slice (p4 7).A (p4 7).N (p4 7).C,.slice b k l,.slice (p2 0).A (p2 0).N (p2 0).C,.int .i64 1],133,true⟩,⟨(p4 11).N,#[.slice (p4 7).A (p4 7).N (p4 7).C],28,true⟩] (by kernel_rfl) (by kernel_rfl)
 replace hG:=hF.gx
 clear hF
 have z8:=hS.fr.size
 refine wp_ret ?_
 exact sym_end hS hK (.agg #[.slice a n c,.slice (p4 7).A (p4 7).N (p4 7).C,.slice b k l,.slice (p2 0).A (p2 0).N (p2 0).C,.int .i64 1]) [(2,0,5)] [.slice a n c,.slice (p4 7).A (p4 7).N (p4 7).C,.slice b k l,.slice (p2 0).A (p2 0).N (p2 0).C,.int .i64 1] (by kernel_rfl) (by kernel_rfl) ⟨⟨_,_,_,_,_,_,rfl,Mine.mono hG.1 z3,Mine.mono hG.2.1 z1⟩,hS.fr⟩
theorem sstand_is_p (w:World) (s:Bool) (a b:Option Addr) (n c k l x y i j:Nat) (sz e X:Int) (v M:Nat) (hT:Tb w) (h1:Num w a n x) (h2:Num w b k y) (hx:x≠0) (hi:i≤524288) (hj:j≤524288) (hz:(i:Int) - (j:Int)+3 = sz) (hz1:-4096≤sz) (hz2:sz≤4096) (HB1:Hid (HBits x i)) (HB2:Hid (HBits y j)) (HP:Hid HPow1) (HF:Hid (∀ (W:World) (p:Nat) (A:Option Addr) (N C:Nat) (A':Option Addr) (N' C':Nat),Rn W p 0→Num W a n x→Num W A N 5→Num W b k y→Num W A' N' 1→Calls Tryz.prog 81 #[.agg #[.slice a n c,.slice A N C,.slice b k l,.slice A' N' C',.int .i64 1],.pointer (some ⟨p,0,none⟩)] W fun en W'=>(∃ A N C,en = .returned (.tuple #[.agg #[.slice A N C],.int .i64 e])∧Mine W' W.heap.size A N C v)∧Below W.heap.size W W')) (HK:Hid (∀ (W:World) (B:Nat) (A:Option Addr) (N C:Nat),Tb W→Mine W B A N C v→Calls Tryz.prog 54 #[.bool s,.agg #[.slice A N C],.int .i64 e] W fun en W'=>(∃ A N C,en = .returned (.tuple #[.agg #[.bool s,.slice A N C,.int .i64 X],.int .i64 0])∧Mine W' W.heap.size A N C M)∧Below W.heap.size W W')) :
  Calls Tryz.prog 35 #[.agg #[.bool s,.slice a n c,.slice b k l],.int .i64 1] w fun en w'=>(∃ A N C,en = .returned (.tuple #[.agg #[.bool s,.slice A N C,.int .i64 X],.int .i64 0])∧Mine w' w.heap.size A N C M)∧Below w.heap.size w w':=by
 refine calls_sym Tryz.func35 rfl (by kernel_rfl) fun T hK=>?_
 replace hK:Kn T _ [(0,.agg #[.bool s,.slice a n c,.slice b k l]),(1,.int .i64 1)]:=hK
 have hS:=Fb.begin w
 have hG:GsAt [gN a n x,gN b k y] w:=⟨h1,h2,trivial⟩
 refine wp_symQ hS hG hK (fun p1=>[.n 2 #[.bool s,.slice a n c,.slice b k l] 35,.n 4 #[.bool false,.slice none 0 0,.int .i64 0] 30,.v 5 (.int .i64 0)]) (fun p1=>[(1,.int .i64 1),(2,.pointer (some ⟨(p1 0).N,0,none⟩)),(4,.pointer (some ⟨(p1 1).N,0,none⟩)),(5,.int .i64 0)]) (by kernel_rfl) (fun _ _=>by kernel_rfl) (fun _=>by kernel_rfl) (fun _=>by kernel_rfl) (fun p1=>?_) (fun p1 W1 T hF hK=>?_)
 ·iterate 2 refine ok_n (fun _=>by kernel_rfl) ?_
  refine ok_v (by kernel_rfl) ?_
  exact ok_nil
 replace hS:=SymF.fb hS hF [1000,1001] [⟨(p1 0).N,#[.bool s,.slice a n c,.slice b k l],35,true⟩,⟨(p1 1).N,#[.bool false,.slice none 0 0,.int .i64 0],30,true⟩] (by kernel_rfl) (by kernel_rfl)
 replace hG:=hF.gx
 clear hF
 have z1:=hS.fr.size
 refine wp_seq ?_
 refine wp_symQ hS hG hK (fun p2=>[.v 10 (.pointer (some ⟨(p1 0).N,1,none⟩)),.l 11 (.agg #[.slice a n c]) 0 1,.c (some 12) (cV (.bool false))]) (fun p2=>[(1,.int .i64 1),(2,.pointer (some ⟨(p1 0).N,0,none⟩)),(4,.pointer (some ⟨(p1 1).N,0,none⟩)),(5,.int .i64 0),(12,.bool false)]) (by kernel_rfl) (fun _ _=>by kernel_rfl) (fun _=>by kernel_rfl) (fun _=>by kernel_rfl) (fun p2=>?_) (fun p2 W2 T hF hK=>?_)
 ·refine ok_v (by kernel_rfl) ?_
  refine ok_L (by kernel_rfl) (by kernel_rfl) (by kernel_rfl) ?_
  refine ok_c (fun W cx=>as_v (snought a _ c _ _ (Num.noz (cx.G.1) hx))) (by kernel_rfl) ?_
  exact ok_nil
 replace hS:=SymF.fb hS hF [0,1] [⟨(p1 0).N,#[.bool s,.slice a n c,.slice b k l],35,true⟩,⟨(p1 1).N,#[.bool false,.slice none 0 0,.int .i64 0],30,true⟩] (by kernel_rfl) (by kernel_rfl)
 replace hG:=hF.gx
 clear hF
 have z2:=hS.fr.size
 refine wp_cond_false (hK.ev 12 (by kernel_rfl) _ (by kernel_rfl)) ?_
 refine wp_skip ?_
 refine then_n ?_
 refine wp_symQ hS hG hK (fun p3=>[.n 6 #[.int .i64 0] 129]) (fun p3=>[(1,.int .i64 1),(2,.pointer (some ⟨(p1 0).N,0,none⟩)),(4,.pointer (some ⟨(p1 1).N,0,none⟩)),(5,.int .i64 0),(6,.pointer (some ⟨(p3 0).N,0,none⟩)),(12,.bool false)]) (by kernel_rfl) (fun _ _=>by kernel_rfl) (fun _=>by kernel_rfl) (fun _=>by kernel_rfl) (fun p3=>?_) (fun p3 W3 T hF hK=>?_)
 ·refine ok_n (fun _=>by kernel_rfl) ?_
  exact ok_nil
 replace hS:=SymF.fb hS hF [0,1,1000] [⟨(p1 0).N,#[.bool s,.slice a n c,.slice b k l],35,true⟩,⟨(p1 1).N,#[.bool false,.slice none 0 0,.int .i64 0],30,true⟩,⟨(p3 0).N,#[.int .i64 0],129,true⟩] (by kernel_rfl) (by kernel_rfl)
 replace hG:=hF.gx
 clear hF
 have z3:=hS.fr.size
 refine wp_symQ hS hG hK (fun p4=>[.l 14 (.agg #[.bool s,.slice a n c,.slice b k l]) 0 0,.v 15 (.int .i64 1),.c (some 16) (cV (.int .i64 sz)),.v 7 (.int .i64 sz)]) (fun p4=>[(1,.int .i64 1),(2,.pointer (some ⟨(p1 0).N,0,none⟩)),(4,.pointer (some ⟨(p1 1).N,0,none⟩)),(5,.int .i64 0),(6,.pointer (some ⟨(p3 0).N,0,none⟩)),(7,.int .i64 sz),(12,.bool false)]) (by kernel_rfl) (fun _ _=>by kernel_rfl) (fun _=>by kernel_rfl) (fun _=>by kernel_rfl) (fun p4=>?_) (fun p4 W4 T hF hK=>?_)
 ·refine ok_L (by kernel_rfl) (by kernel_rfl) (by kernel_rfl) ?_
  refine ok_v (by kernel_rfl) ?_
  refine ok_c (fun W cx=>as_v (ssize_is_p _ _ s a b n c k l x y i j sz ⟨_,_,cx.B 2 _ rfl (by kernel_rfl) (by kernel_rfl),rfl⟩ (cx.G.1) (cx.G.2.1) hi hj hz HB1 HB2)) (by kernel_rfl) ?_
  refine ok_v (by kernel_rfl) ?_
  exact ok_nil
 replace hS:=SymF.fb hS hF [0,1,2] [⟨(p1 0).N,#[.bool s,.slice a n c,.slice b k l],35,true⟩,⟨(p1 1).N,#[.bool false,.slice none 0 0,.int .i64 0],30,true⟩,⟨(p3 0).N,#[.int .i64 0],129,true⟩] (by kernel_rfl) (by kernel_rfl)
 replace hG:=hF.gx
 clear hF
 have z4:=hS.fr.size
 refine wp_seq ?_
 refine wp_symQ hS hG hK (fun p5=>[.v 17 (.int .i64 sz),.v 18 (.bool false),.v 19 (.bool false),.v 20 (.int .i64 sz),.v 21 (.bool false),.v 22 (.bool false)]) (fun p5=>[(1,.int .i64 1),(2,.pointer (some ⟨(p1 0).N,0,none⟩)),(4,.pointer (some ⟨(p1 1).N,0,none⟩)),(5,.int .i64 0),(6,.pointer (some ⟨(p3 0).N,0,none⟩)),(7,.int .i64 sz),(12,.bool false),(22,.bool false)]) (by kernel_rfl) (fun _ _=>by kernel_rfl) (fun _=>by kernel_rfl) (fun _=>by kernel_rfl) (fun p5=>?_) (fun p5 W5 T hF hK=>?_)
 ·refine ok_v (by kernel_rfl) ?_
  refine ok_vb (decide_eq_false (show ¬ sz > 4096 by omega)) (by kernel_rfl) ?_
  iterate 2 refine ok_v (by kernel_rfl) ?_
  refine ok_vb (decide_eq_false (show ¬ sz < -4096 by omega)) (by kernel_rfl) ?_
  refine ok_v (by kernel_rfl) ?_
  exact ok_nil
 replace hS:=SymF.fb hS hF [0,1,2] [⟨(p1 0).N,#[.bool s,.slice a n c,.slice b k l],35,true⟩,⟨(p1 1).N,#[.bool false,.slice none 0 0,.int .i64 0],30,true⟩,⟨(p3 0).N,#[.int .i64 0],129,true⟩] (by kernel_rfl) (by kernel_rfl)
 replace hG:=hF.gx
 clear hF
 have z5:=hS.fr.size
 refine wp_cond_false (hK.ev 22 (by kernel_rfl) _ (by kernel_rfl)) ?_
 refine wp_skip ?_
 refine then_n ?_
 refine wp_symQ hS hG hK (fun p6=>[.l 31 (.agg #[.bool s,.slice a n c,.slice b k l]) 0 0,.v 32 (.int .i64 1),.c (some 33) (cH W5.heap.size 5 1 fun x9 y9=>.agg #[.slice a n c,x9,.slice b k l,y9,.int .i64 1]),.c (some 34) (cG W5.heap.size v fun x9=>.tuple #[.agg #[x9],.int .i64 e]),.v 30 (.tuple #[.agg #[.slice (p6 3).A (p6 3).N (p6 3).C],.int .i64 e]),.v 35 (.agg #[.slice (p6 3).A (p6 3).N (p6 3).C]),.v 36 (.int .i64 e),.n 8 #[.slice none 0 0] 28,.p 1007 0 [.slice (p6 3).A (p6 3).N (p6 3).C],.v 9 (.int .i64 e)]) (fun p6=>[(2,.pointer (some ⟨(p1 0).N,0,none⟩)),(4,.pointer (some ⟨(p1 1).N,0,none⟩)),(5,.int .i64 0),(6,.pointer (some ⟨(p3 0).N,0,none⟩)),(7,.int .i64 sz),(8,.pointer (some ⟨(p6 7).N,0,none⟩)),(9,.int .i64 e),(12,.bool false),(22,.bool false)]) (by kernel_rfl) (fun _ _=>by kernel_rfl) (fun _=>by kernel_rfl) (fun _=>by kernel_rfl) (fun p6=>?_) (fun p6 W6 T hF hK=>?_)
 ·refine ok_L (by kernel_rfl) (by kernel_rfl) (by kernel_rfl) ?_
  refine ok_v (by kernel_rfl) ?_
  refine ok_c (fun W cx=>as_h cx.hb (sscal_is_p _ _ s a b n c k l x y ⟨_,_,cx.B 2 _ rfl (by kernel_rfl) (by kernel_rfl),rfl⟩ (cx.G.1) (cx.G.2.1) HP)) (by kernel_rfl) ?_
  refine ok_c (fun W cx=>as_g cx.hb (unhide HF _ _ _ _ (p6 2).C _ _ (p6 2).C' ⟨_,_,cx.B 2 _ rfl (by kernel_rfl) (by kernel_rfl),rfl⟩ (cx.G.1) (Mine.num (And.left (cx.F 2 (by kernel_rfl)))) (cx.G.2.1) (Mine.num (And.right (cx.F 2 (by kernel_rfl)))))) (by kernel_rfl) ?_
  iterate 3 refine ok_v (by kernel_rfl) ?_
  refine ok_n (fun _=>by kernel_rfl) ?_
  refine ok_P (by kernel_rfl) (by kernel_rfl) (by kernel_rfl) ?_
  refine ok_v (by kernel_rfl) ?_
  exact ok_nil
 replace hS:=SymF.fb hS hF [0,1,2,1007] [⟨(p1 0).N,#[.bool s,.slice a n c,.slice b k l],35,true⟩,⟨(p1 1).N,#[.bool false,.slice none 0 0,.int .i64 0],30,true⟩,⟨(p3 0).N,#[.int .i64 0],129,true⟩,⟨(p6 7).N,#[.slice (p6 3).A (p6 3).N (p6 3).C],28,true⟩] (by kernel_rfl) (by kernel_rfl)
 replace hG:GsAt (gM W5.heap.size (p6 2).A (p6 2).N (p6 2).C 5 :: gM W5.heap.size (p6 2).A' (p6 2).N' (p6 2).C' 1 :: gM W5.heap.size (p6 3).A (p6 3).N (p6 3).C v :: _) W6:=⟨And.left (hF.fx 2),And.right (hF.fx 2),hF.fx 3,hF.gx⟩
 clear hF
 have z6:=hS.fr.size
 refine wp_seq ?_
 refine wp_symQ hS hG hK (fun p7=>[.v 37 (.pointer (some ⟨(p3 0).N,0,none⟩)),.v 38 (.pointer (some ⟨(p3 0).N,0,none⟩)),.l 39 (.int .i64 0) 2 0,.v 40 (.bool false)]) (fun p7=>[(2,.pointer (some ⟨(p1 0).N,0,none⟩)),(4,.pointer (some ⟨(p1 1).N,0,none⟩)),(5,.int .i64 0),(6,.pointer (some ⟨(p3 0).N,0,none⟩)),(7,.int .i64 sz),(8,.pointer (some ⟨(p6 7).N,0,none⟩)),(9,.int .i64 e),(12,.bool false),(22,.bool false),(40,.bool false)]) (by kernel_rfl) (fun _ _=>by kernel_rfl) (fun _=>by kernel_rfl) (fun _=>by kernel_rfl) (fun p7=>?_) (fun p7 W7 T hF hK=>?_)
 ·iterate 2 refine ok_v (by kernel_rfl) ?_
  refine ok_L (by kernel_rfl) (by kernel_rfl) (by kernel_rfl) ?_
  refine ok_v (by kernel_rfl) ?_
  exact ok_nil
 replace hS:=SymF.fb hS hF [0,1,2,3] [⟨(p1 0).N,#[.bool s,.slice a n c,.slice b k l],35,true⟩,⟨(p1 1).N,#[.bool false,.slice none 0 0,.int .i64 0],30,true⟩,⟨(p3 0).N,#[.int .i64 0],129,true⟩,⟨(p6 7).N,#[.slice (p6 3).A (p6 3).N (p6 3).C],28,true⟩] (by kernel_rfl) (by kernel_rfl)
 replace hG:=hF.gx
 clear hF
 have z7:=hS.fr.size
 refine wp_cond_false (hK.ev 40 (by kernel_rfl) _ (by kernel_rfl)) ?_
 refine wp_skip ?_
 refine then_n ?_
 refine wp_symQ hS hG hK (fun p8=>[.v 45 (.pointer (some ⟨(p1 0).N,0,none⟩)),.l 46 (.bool s) 0 0,.l 47 (.agg #[.slice (p6 3).A (p6 3).N (p6 3).C]) 3 0,.v 48 (.int .i64 e),.c (some 49) (cG W7.heap.size M fun x9=>.tuple #[.agg #[.bool s,x9,.int .i64 X],.int .i64 0]),.v 50 (.agg #[.bool s,.slice (p8 4).A (p8 4).N (p8 4).C,.int .i64 X]),.v 51 (.int .i64 0),.p 1 0 [.bool s,.slice (p8 4).A (p8 4).N (p8 4).C,.int .i64 X],.v 5 (.int .i64 0)]) (fun p8=>[(2,.pointer (some ⟨(p1 0).N,0,none⟩)),(4,.pointer (some ⟨(p1 1).N,0,none⟩)),(5,.int .i64 0),(6,.pointer (some ⟨(p3 0).N,0,none⟩)),(7,.int .i64 sz),(12,.bool false),(22,.bool false),(40,.bool false)]) (by kernel_rfl) (fun _ _=>by kernel_rfl) (fun _=>by kernel_rfl) (fun _=>by kernel_rfl) (fun p8=>?_) (fun p8 W8 T hF hK=>?_)
 ·refine ok_v (by kernel_rfl) ?_
  iterate 2 refine ok_L (by kernel_rfl) (by kernel_rfl) (by kernel_rfl) ?_
  refine ok_v (by kernel_rfl) ?_
  refine ok_c (fun W cx=>as_g cx.hb (unhide HK _ _ _ _ _ (hT.kept cx.fr) cx.G.2.2.1)) (by kernel_rfl) ?_
  iterate 2 refine ok_v (by kernel_rfl) ?_
  refine ok_P (by kernel_rfl) (by kernel_rfl) (by kernel_rfl) ?_
  refine ok_v (by kernel_rfl) ?_
  exact ok_nil
 replace hS:=SymF.fb hS hF [0,1,2] [⟨(p1 0).N,#[.bool s,.slice a n c,.slice b k l],35,true⟩,⟨(p1 1).N,#[.bool s,.slice (p8 4).A (p8 4).N (p8 4).C,.int .i64 X],30,true⟩,⟨(p3 0).N,#[.int .i64 0],129,true⟩] (by kernel_rfl) (by kernel_rfl)
 replace hG:GsAt (gM W7.heap.size (p8 4).A (p8 4).N (p8 4).C M :: _) W8:=⟨hF.fx 4,hF.gx⟩
 clear hF
 have z8:=hS.fr.size
 refine wp_ret ?_
 exact sym_end hS hK (.tuple #[.agg #[.bool s,.slice (p8 4).A (p8 4).N (p8 4).C,.int .i64 X],.int .i64 0]) [(1,0,3)] [.bool s,.slice (p8 4).A (p8 4).N (p8 4).C,.int .i64 X] (by kernel_rfl) (by kernel_rfl) ⟨⟨_,_,_,rfl,Mine.mono hG.1 z7⟩,hS.fr⟩
theorem sscaled_is_p (w:World) (E F md:Nat) (s ng:Bool) (a b:Option Addr) (n c k l x y:Nat) (X:Int) (M bt fl:Nat) (hfo:Fo E F) (hm:md≤4) (hT:Tb w) (h1:Num w a n x) (h2:Num w b k y) (HC:Hid (∀ W:World,Num W a n x→Num W b k y→Calls Tryz.prog 24 #[.agg #[.bool s,.slice a n c,.slice b k l]] W fun e W'=>e = .returned (.int .i64 0)∧Below W.heap.size W W')) (HD:Hid (∀ W:World,Tb W→Num W a n x→Num W b k y→Calls Tryz.prog 35 #[.agg #[.bool s,.slice a n c,.slice b k l],.int .i64 1] W fun en W'=>(∃ A N C,en = .returned (.tuple #[.agg #[.bool s,.slice A N C,.int .i64 X],.int .i64 0])∧Mine W' W.heap.size A N C M)∧Below W.heap.size W W')) (HR:Hid (∀ (W:World) (B:Nat) (A:Option Addr) (N C:Nat),Mine W B A N C M→Calls Tryz.prog 33 #[.agg #[.int .i64 E,.int .i64 F],.agg #[.bool s,.slice A N C,.int .i64 X],.bool ng,.int .u8 (md:Int)] W fun e W'=>e = .returned (.tuple #[.int .u64 (bt:Int),.int .u8 (fl:Int),.int .i64 0])∧Below W.heap.size W W')) :
  Calls Tryz.prog 11 #[.agg #[.int .i64 (E:Int),.int .i64 (F:Int)],.agg #[.bool s,.slice a n c,.slice b k l],.int .i64 1,.bool ng,.int .u8 (md:Int)] w fun en w'=>en = .returned (.tuple #[.int .u64 (bt:Int),.int .u8 (fl:Int),.int .i64 0])∧Below w.heap.size w w':=by
 refine calls_sym Tryz.func11 rfl (by kernel_rfl) fun T hK=>?_
 replace hK:Kn T _ [(0,.agg #[.int .i64 (E:Int),.int .i64 (F:Int)]),(1,.agg #[.bool s,.slice a n c,.slice b k l]),(2,.int .i64 1),(3,.bool ng),(4,.int .u8 (md:Int))]:=hK
 have hS:=Fb.begin w
 have hG:GsAt [gN a n x,gN b k y] w:=⟨h1,h2,trivial⟩
 refine wp_symQ hS hG hK (fun p1=>[.n 5 #[.int .i64 (E:Int),.int .i64 (F:Int)] 23,.n 6 #[.bool s,.slice a n c,.slice b k l] 35,.v 10 (.int .u64 0),.v 11 (.int .u8 0),.v 12 (.int .i64 0)]) (fun p1=>[(2,.int .i64 1),(3,.bool ng),(4,.int .u8 (md:Int)),(5,.pointer (some ⟨(p1 0).N,0,none⟩)),(6,.pointer (some ⟨(p1 1).N,0,none⟩)),(10,.int .u64 0),(11,.int .u8 0),(12,.int .i64 0)]) (by kernel_rfl) (fun _ _=>by kernel_rfl) (fun _=>by kernel_rfl) (fun _=>by kernel_rfl) (fun p1=>?_) (fun p1 W1 T hF hK=>?_)
 ·iterate 2 refine ok_n (fun _=>by kernel_rfl) ?_
  iterate 3 refine ok_v (by kernel_rfl) ?_
  exact ok_nil
 replace hS:=SymF.fb hS hF [1000,1001] [⟨(p1 0).N,#[.int .i64 (E:Int),.int .i64 (F:Int)],23,true⟩,⟨(p1 1).N,#[.bool s,.slice a n c,.slice b k l],35,true⟩] (by kernel_rfl) (by kernel_rfl)
 replace hG:=hF.gx
 clear hF
 have z1:=hS.fr.size
 refine wp_seq ?_
 refine wp_symQ hS hG hK (fun p2=>[.l 17 (.agg #[.int .i64 (E:Int),.int .i64 (F:Int)]) 0 0,.c (some 18) (cV (.int .i64 0)),.v 13 (.int .i64 0)]) (fun p2=>[(2,.int .i64 1),(3,.bool ng),(4,.int .u8 (md:Int)),(5,.pointer (some ⟨(p1 0).N,0,none⟩)),(6,.pointer (some ⟨(p1 1).N,0,none⟩)),(10,.int .u64 0),(11,.int .u8 0),(12,.int .i64 0),(13,.int .i64 0)]) (by kernel_rfl) (fun _ _=>by kernel_rfl) (fun _=>by kernel_rfl) (fun _=>by kernel_rfl) (fun p2=>?_) (fun p2 W2 T hF hK=>?_)
 ·refine ok_L (by kernel_rfl) (by kernel_rfl) (by kernel_rfl) ?_
  refine ok_c (fun W cx=>as_v (check_ok _ _ _ hfo)) (by kernel_rfl) ?_
  refine ok_v (by kernel_rfl) ?_
  exact ok_nil
 replace hS:=SymF.fb hS hF [0,1] [⟨(p1 0).N,#[.int .i64 (E:Int),.int .i64 (F:Int)],23,true⟩,⟨(p1 1).N,#[.bool s,.slice a n c,.slice b k l],35,true⟩] (by kernel_rfl) (by kernel_rfl)
 replace hG:=hF.gx
 clear hF
 have z2:=hS.fr.size
 refine wp_symQ hS hG hK (fun p3=>[.v 19 (.int .i64 0),.v 20 (.bool false)]) (fun p3=>[(2,.int .i64 1),(3,.bool ng),(4,.int .u8 (md:Int)),(5,.pointer (some ⟨(p1 0).N,0,none⟩)),(6,.pointer (some ⟨(p1 1).N,0,none⟩)),(10,.int .u64 0),(11,.int .u8 0),(12,.int .i64 0),(13,.int .i64 0),(20,.bool false)]) (by kernel_rfl) (fun _ _=>by kernel_rfl) (fun _=>by kernel_rfl) (fun _=>by kernel_rfl) (fun p3=>?_) (fun p3 W3 T hF hK=>?_)
 ·iterate 2 refine ok_v (by kernel_rfl) ?_
  exact ok_nil
 replace hS:=SymF.fb hS hF [0,1] [⟨(p1 0).N,#[.int .i64 (E:Int),.int .i64 (F:Int)],23,true⟩,⟨(p1 1).N,#[.bool s,.slice a n c,.slice b k l],35,true⟩] (by kernel_rfl) (by kernel_rfl)
 replace hG:=hF.gx
 clear hF
 have z3:=hS.fr.size
 refine wp_cond_false (hK.ev 20 (by kernel_rfl) _ (by kernel_rfl)) ?_
 refine wp_skip ?_
 refine then_n ?_
 refine wp_seq ?_
 refine wp_symQ hS hG hK (fun p4=>[.l 22 (.agg #[.bool s,.slice a n c,.slice b k l]) 1 0,.v 23 (.int .u8 (md:Int)),.c (some 24) (cV (.int .i64 0)),.v 14 (.int .i64 0)]) (fun p4=>[(2,.int .i64 1),(3,.bool ng),(4,.int .u8 (md:Int)),(5,.pointer (some ⟨(p1 0).N,0,none⟩)),(6,.pointer (some ⟨(p1 1).N,0,none⟩)),(10,.int .u64 0),(11,.int .u8 0),(12,.int .i64 0),(13,.int .i64 0),(14,.int .i64 0),(20,.bool false)]) (by kernel_rfl) (fun _ _=>by kernel_rfl) (fun _=>by kernel_rfl) (fun _=>by kernel_rfl) (fun p4=>?_) (fun p4 W4 T hF hK=>?_)
 ·refine ok_L (by kernel_rfl) (by kernel_rfl) (by kernel_rfl) ?_
  refine ok_v (by kernel_rfl) ?_
  refine ok_c (fun W cx=>as_v (tcheckF_ok s a n c b k l md hm _ (hide fun W9 hb9=>unhide HC W9 (Num.kept (cx.G.1) hb9) (Num.kept (cx.G.2.1) hb9)))) (by kernel_rfl) ?_
  refine ok_v (by kernel_rfl) ?_
  exact ok_nil
 replace hS:=SymF.fb hS hF [0,1] [⟨(p1 0).N,#[.int .i64 (E:Int),.int .i64 (F:Int)],23,true⟩,⟨(p1 1).N,#[.bool s,.slice a n c,.slice b k l],35,true⟩] (by kernel_rfl) (by kernel_rfl)
 replace hG:=hF.gx
 clear hF
 have z4:=hS.fr.size
 refine wp_symQ hS hG hK (fun p5=>[.v 25 (.int .i64 0),.v 26 (.bool false)]) (fun p5=>[(2,.int .i64 1),(3,.bool ng),(4,.int .u8 (md:Int)),(5,.pointer (some ⟨(p1 0).N,0,none⟩)),(6,.pointer (some ⟨(p1 1).N,0,none⟩)),(10,.int .u64 0),(11,.int .u8 0),(12,.int .i64 0),(13,.int .i64 0),(14,.int .i64 0),(20,.bool false),(26,.bool false)]) (by kernel_rfl) (fun _ _=>by kernel_rfl) (fun _=>by kernel_rfl) (fun _=>by kernel_rfl) (fun p5=>?_) (fun p5 W5 T hF hK=>?_)
 ·iterate 2 refine ok_v (by kernel_rfl) ?_
  exact ok_nil
 replace hS:=SymF.fb hS hF [0,1] [⟨(p1 0).N,#[.int .i64 (E:Int),.int .i64 (F:Int)],23,true⟩,⟨(p1 1).N,#[.bool s,.slice a n c,.slice b k l],35,true⟩] (by kernel_rfl) (by kernel_rfl)
 replace hG:=hF.gx
 clear hF
 have z5:=hS.fr.size
 refine wp_cond_false (hK.ev 26 (by kernel_rfl) _ (by kernel_rfl)) ?_
 refine wp_skip ?_
 refine then_n ?_
 refine wp_symQ hS hG hK (fun p6=>[.l 29 (.agg #[.bool s,.slice a n c,.slice b k l]) 1 0,.v 30 (.int .i64 1),.c (some 31) (cG W5.heap.size M fun x9=>.tuple #[.agg #[.bool s,x9,.int .i64 X],.int .i64 0]),.v 28 (.tuple #[.agg #[.bool s,.slice (p6 2).A (p6 2).N (p6 2).C,.int .i64 X],.int .i64 0]),.v 32 (.agg #[.bool s,.slice (p6 2).A (p6 2).N (p6 2).C,.int .i64 X]),.v 33 (.int .i64 0),.n 15 #[.bool false,.slice none 0 0,.int .i64 0] 30,.p 1006 0 [.bool s,.slice (p6 2).A (p6 2).N (p6 2).C,.int .i64 X],.v 16 (.int .i64 0)]) (fun p6=>[(3,.bool ng),(4,.int .u8 (md:Int)),(5,.pointer (some ⟨(p1 0).N,0,none⟩)),(10,.int .u64 0),(11,.int .u8 0),(12,.int .i64 0),(13,.int .i64 0),(14,.int .i64 0),(15,.pointer (some ⟨(p6 6).N,0,none⟩)),(16,.int .i64 0),(20,.bool false),(26,.bool false)]) (by kernel_rfl) (fun _ _=>by kernel_rfl) (fun _=>by kernel_rfl) (fun _=>by kernel_rfl) (fun p6=>?_) (fun p6 W6 T hF hK=>?_)
 ·refine ok_L (by kernel_rfl) (by kernel_rfl) (by kernel_rfl) ?_
  refine ok_v (by kernel_rfl) ?_
  refine ok_c (fun W cx=>as_g cx.hb (unhide HD _ (hT.kept cx.fr) (cx.G.1) (cx.G.2.1))) (by kernel_rfl) ?_
  iterate 3 refine ok_v (by kernel_rfl) ?_
  refine ok_n (fun _=>by kernel_rfl) ?_
  refine ok_P (by kernel_rfl) (by kernel_rfl) (by kernel_rfl) ?_
  refine ok_v (by kernel_rfl) ?_
  exact ok_nil
 replace hS:=SymF.fb hS hF [0,1006] [⟨(p1 0).N,#[.int .i64 (E:Int),.int .i64 (F:Int)],23,true⟩,⟨(p6 6).N,#[.bool s,.slice (p6 2).A (p6 2).N (p6 2).C,.int .i64 X],30,true⟩] (by kernel_rfl) (by kernel_rfl)
 replace hG:GsAt (gM W5.heap.size (p6 2).A (p6 2).N (p6 2).C M :: _) W6:=⟨hF.fx 2,hF.gx⟩
 clear hF
 have z6:=hS.fr.size
 refine wp_seq ?_
 refine wp_symQ hS hG hK (fun p7=>[.v 34 (.int .i64 0),.v 35 (.bool false)]) (fun p7=>[(3,.bool ng),(4,.int .u8 (md:Int)),(5,.pointer (some ⟨(p1 0).N,0,none⟩)),(10,.int .u64 0),(11,.int .u8 0),(12,.int .i64 0),(13,.int .i64 0),(14,.int .i64 0),(15,.pointer (some ⟨(p6 6).N,0,none⟩)),(16,.int .i64 0),(20,.bool false),(26,.bool false),(35,.bool false)]) (by kernel_rfl) (fun _ _=>by kernel_rfl) (fun _=>by kernel_rfl) (fun _=>by kernel_rfl) (fun p7=>?_) (fun p7 W7 T hF hK=>?_)
 ·iterate 2 refine ok_v (by kernel_rfl) ?_
  exact ok_nil
 replace hS:=SymF.fb hS hF [0,1] [⟨(p1 0).N,#[.int .i64 (E:Int),.int .i64 (F:Int)],23,true⟩,⟨(p6 6).N,#[.bool s,.slice (p6 2).A (p6 2).N (p6 2).C,.int .i64 X],30,true⟩] (by kernel_rfl) (by kernel_rfl)
 replace hG:=hF.gx
 clear hF
 have z7:=hS.fr.size
 refine wp_cond_false (hK.ev 35 (by kernel_rfl) _ (by kernel_rfl)) ?_
 refine wp_skip ?_
 refine then_n ?_
 refine wp_symQ hS hG hK (fun p8=>[.l 37 (.agg #[.int .i64 (E:Int),.int .i64 (F:Int)]) 0 0,.l 38 (.agg #[.bool s,.slice (p6 2).A (p6 2).N (p6 2).C,.int .i64 X]) 1 0,.v 39 (.bool ng),.v 40 (.int .u8 (md:Int)),.c (some 41) (cV (.tuple #[.int .u64 (bt:Int),.int .u8 (fl:Int),.int .i64 0])),.v 42 (.int .u64 (bt:Int)),.v 43 (.int .u8 (fl:Int)),.v 44 (.int .i64 0),.v 10 (.int .u64 (bt:Int)),.v 11 (.int .u8 (fl:Int)),.v 12 (.int .i64 0)]) (fun p8=>[(10,.int .u64 (bt:Int)),(11,.int .u8 (fl:Int)),(12,.int .i64 0),(13,.int .i64 0),(14,.int .i64 0),(16,.int .i64 0),(20,.bool false),(26,.bool false),(35,.bool false)]) (by kernel_rfl) (fun _ _=>by kernel_rfl) (fun _=>by kernel_rfl) (fun _=>by kernel_rfl) (fun p8=>?_) (fun p8 W8 T hF hK=>?_)
 ·iterate 2 refine ok_L (by kernel_rfl) (by kernel_rfl) (by kernel_rfl) ?_
  iterate 2 refine ok_v (by kernel_rfl) ?_
  refine ok_c (fun W cx=>as_v (unhide HR _ _ _ _ _ cx.G.1)) (by kernel_rfl) ?_
  iterate 6 refine ok_v (by kernel_rfl) ?_
  exact ok_nil
 replace hS:=SymF.fb hS hF [] [] (by kernel_rfl) (by kernel_rfl)
 replace hG:=hF.gx
 clear hF
 have z8:=hS.fr.size
 refine wp_ret ?_
 exact sym_end hS hK (.tuple #[.int .u64 (bt:Int),.int .u8 (fl:Int),.int .i64 0]) [] [] (by kernel_rfl) (by kernel_rfl) ⟨rfl,hS.fr⟩
theorem ssize_is_m (w:World) (p:Nat) (s:Bool) (a b:Option Addr) (n c k l x y i j:Nat) (sz:Int) (hk:Rn w p 0) (h1:Num w a n x) (h2:Num w b k y) (hi:i≤524288) (hj:j≤524288) (hz:(i:Int) - (j:Int)+(-3) = sz) (HB1:Hid (HBits x i)) (HB2:Hid (HBits y j)) :
  Calls Tryz.prog 79 #[.pointer (some ⟨p,0,none⟩),.agg #[.bool s,.slice a n c,.slice b k l],.int .i64 (-1)] w fun en w'=>en = .returned (.int .i64 sz)∧Below w.heap.size w w':=by
 obtain ⟨cs9,t9_,hp,hp0⟩:=hk
 refine calls_sym Tryz.func79 rfl (by kernel_rfl) fun T hK=>?_
 replace hK:Kn T _ [(0,.pointer (some ⟨p,0,none⟩)),(1,.agg #[.bool s,.slice a n c,.slice b k l]),(2,.int .i64 (-1))]:=hK
 have hS:=Fb.other hp
 have hG:GsAt [gN a n x,gN b k y] w:=⟨h1,h2,trivial⟩
 refine wp_symQ hS hG hK (fun p1=>[.n 4 #[.bool s,.slice a n c,.slice b k l] 35,.v 6 (.int .i64 0)]) (fun p1=>[(0,.pointer (some ⟨p,0,none⟩)),(2,.int .i64 (-1)),(4,.pointer (some ⟨(p1 0).N,0,none⟩)),(6,.int .i64 0)]) (by kernel_rfl) (fun _ _=>by kernel_rfl) (fun _=>by kernel_rfl) (fun _=>by kernel_rfl) (fun p1=>?_) (fun p1 W1 T hF hK=>?_)
 ·refine ok_n (fun _=>by kernel_rfl) ?_
  refine ok_v (by kernel_rfl) ?_
  exact ok_nil
 replace hS:=SymF.fb hS hF [0,1000] [⟨p,cs9,t9_,false⟩,⟨(p1 0).N,#[.bool s,.slice a n c,.slice b k l],35,true⟩] (by kernel_rfl) (by kernel_rfl)
 replace hG:=hF.gx
 clear hF
 have z1:=hS.fr.size
 refine wp_symQ hS hG hK (fun p2=>[.v 7 (.int .i64 (-1)),.v 8 (.int .i64 (-1)),.v 9 (.int .i64 (-1)),.v 2 (.int .i64 (-1))]) (fun p2=>[(0,.pointer (some ⟨p,0,none⟩)),(2,.int .i64 (-1)),(4,.pointer (some ⟨(p1 0).N,0,none⟩)),(6,.int .i64 0)]) (by kernel_rfl) (fun _ _=>by kernel_rfl) (fun _=>by kernel_rfl) (fun _=>by kernel_rfl) (fun p2=>?_) (fun p2 W2 T hF hK=>?_)
 ·iterate 4 refine ok_v (by kernel_rfl) ?_
  exact ok_nil
 replace hS:=SymF.fb hS hF [0,1] [⟨p,cs9,t9_,false⟩,⟨(p1 0).N,#[.bool s,.slice a n c,.slice b k l],35,true⟩] (by kernel_rfl) (by kernel_rfl)
 replace hG:=hF.gx
 clear hF
 have z2:=hS.fr.size
 refine wp_symQ hS hG hK (fun p3=>[.v 10 (.pointer (some ⟨p,0,none⟩)),.v 11 (.pointer (some ⟨p,0,none⟩)),.v 12 (.pointer (some ⟨p,0,none⟩)),.v 13 (.pointer (some ⟨(p1 0).N,1,none⟩)),.l 14 (.agg #[.slice a n c]) 1 1,.c (some 15) (cV (.tuple #[.int .i64 (i:Int),.int .i64 0])),.v 16 (.int .i64 (i:Int)),.v 17 (.int .i64 0),.u 18 (.int .i64 (i:Int)) (aG 1),.v 19 (.pointer (some ⟨p,0,none⟩)),.v 20 (.pointer (some ⟨p,0,none⟩)),.v 21 (.pointer (some ⟨p,0,none⟩)),.v 22 (.pointer (some ⟨(p1 0).N,2,none⟩)),.l 23 (.agg #[.slice b k l]) 1 2,.c (some 24) (cV (.tuple #[.int .i64 (j:Int),.int .i64 0])),.v 25 (.int .i64 (j:Int)),.v 26 (.int .i64 0),.u 27 (.int .i64 (j:Int)) (aG 1),.v 28 (.int .i64 ((i:Int) - (j:Int))),.v 29 (.int .i64 (-1)),.v 30 (.int .i64 (-3321928)),.v 31 (.int .i64 (-3)),.v 32 (.int .i64 sz),.v 6 (.int .i64 sz)]) (fun p3=>[(6,.int .i64 sz)]) (by kernel_rfl) (fun _ _=>by kernel_rfl) (fun _=>by kernel_rfl) (fun _=>by kernel_rfl) (fun p3=>?_) (fun p3 W3 T hF hK=>?_)
 ·iterate 4 refine ok_v (by kernel_rfl) ?_
  refine ok_L (by kernel_rfl) (by kernel_rfl) (by kernel_rfl) ?_
  refine ok_c (fun W cx=>as_v (unhide HB1 _ _ _ c (cx.G.1))) (by kernel_rfl) ?_
  iterate 2 refine ok_v (by kernel_rfl) ?_
  refine ok_u (fun W cx=>runInt_0 p 0 _ _ ⟨_,_,cx.B 0 _ rfl (by kernel_rfl) (by kernel_rfl),hp0⟩) (by kernel_rfl) (by kernel_rfl) ?_
  iterate 4 refine ok_v (by kernel_rfl) ?_
  refine ok_L (by kernel_rfl) (by kernel_rfl) (by kernel_rfl) ?_
  refine ok_c (fun W cx=>as_v (unhide HB2 _ _ _ l (cx.G.2.1))) (by kernel_rfl) ?_
  iterate 2 refine ok_v (by kernel_rfl) ?_
  refine ok_u (fun W cx=>runInt_0 p 0 _ _ ⟨_,_,cx.B 0 _ rfl (by kernel_rfl) (by kernel_rfl),hp0⟩) (by kernel_rfl) (by kernel_rfl) ?_
  refine ok_vi (wr64 (x:=(i:Int) - (j:Int)) (by omega) (by omega)) (by kernel_rfl) ?_
  iterate 3 refine ok_v (by kernel_rfl) ?_
  refine ok_vi ((wr64 (x:=(i:Int) - (j:Int)+(-3)) (by omega) (by omega)).trans hz) (by kernel_rfl) ?_
  refine ok_v (by kernel_rfl) ?_
  exact ok_nil
 replace hS:=SymF.fb hS hF [0] [⟨p,cs9,t9_,false⟩] (by kernel_rfl) (by kernel_rfl)
 replace hG:=hF.gx
 clear hF
 have z3:=hS.fr.size
 refine wp_ret ?_
 exact sym_end hS hK (.int .i64 sz) [] [] (by kernel_rfl) (by kernel_rfl) ⟨rfl,hS.fr⟩
theorem sscal_is_m (w:World) (p:Nat) (s:Bool) (a b:Option Addr) (n c k l x y:Nat) (hk:Rn w p 0) (h1:Num w a n x) (h2:Num w b k y) (HP:Hid (HPow1)) :
  Calls Tryz.prog 80 #[.pointer (some ⟨p,0,none⟩),.agg #[.bool s,.slice a n c,.slice b k l],.int .i64 (-1)] w fun en w'=>(∃ A N C A' N' C',en = .returned (.agg #[.slice a n c,.slice A N C,.slice b k l,.slice A' N' C',.int .i64 (-1)])∧Mine w' w.heap.size A N C 1∧Mine w' w.heap.size A' N' C' 5)∧Below w.heap.size w w':=by
 obtain ⟨cs9,t9_,hp,hp0⟩:=hk
 refine calls_sym Tryz.func80 rfl (by kernel_rfl) fun T hK=>?_
 replace hK:Kn T _ [(0,.pointer (some ⟨p,0,none⟩)),(1,.agg #[.bool s,.slice a n c,.slice b k l]),(2,.int .i64 (-1))]:=hK
 have hS:=Fb.other hp
 have hG:GsAt [gN a n x,gN b k y] w:=⟨h1,h2,trivial⟩
 refine wp_symQ hS hG hK (fun p1=>[.n 4 #[.bool s,.slice a n c,.slice b k l] 35,.n 6 #[.slice none 0 0,.slice none 0 0,.slice none 0 0,.slice none 0 0,.int .i64 0] 133]) (fun p1=>[(0,.pointer (some ⟨p,0,none⟩)),(2,.int .i64 (-1)),(4,.pointer (some ⟨(p1 0).N,0,none⟩)),(6,.pointer (some ⟨(p1 1).N,0,none⟩))]) (by kernel_rfl) (fun _ _=>by kernel_rfl) (fun _=>by kernel_rfl) (fun _=>by kernel_rfl) (fun p1=>?_) (fun p1 W1 T hF hK=>?_)
 ·iterate 2 refine ok_n (fun _=>by kernel_rfl) ?_
  exact ok_nil
 replace hS:=SymF.fb hS hF [0,1000,1001] [⟨p,cs9,t9_,false⟩,⟨(p1 0).N,#[.bool s,.slice a n c,.slice b k l],35,true⟩,⟨(p1 1).N,#[.slice none 0 0,.slice none 0 0,.slice none 0 0,.slice none 0 0,.int .i64 0],133,true⟩] (by kernel_rfl) (by kernel_rfl)
 replace hG:=hF.gx
 clear hF
 have z1:=hS.fr.size
 refine wp_symQ hS hG hK (fun p2=>[.c (some 10) (cN W1.heap.size 1),.n 7 #[.slice none 0 0] 28,.p 1001 0 [.slice (p2 0).A (p2 0).N (p2 0).C]]) (fun p2=>[(0,.pointer (some ⟨p,0,none⟩)),(2,.int .i64 (-1)),(4,.pointer (some ⟨(p1 0).N,0,none⟩)),(6,.pointer (some ⟨(p1 1).N,0,none⟩)),(7,.pointer (some ⟨(p2 1).N,0,none⟩))]) (by kernel_rfl) (fun _ _=>by kernel_rfl) (fun _=>by kernel_rfl) (fun _=>by kernel_rfl) (fun p2=>?_) (fun p2 W2 T hF hK=>?_)
 ·refine ok_c (fun W cx=>as_n cx.hb (of_any 1 _ (by decide))) (by kernel_rfl) ?_
  refine ok_n (fun _=>by kernel_rfl) ?_
  refine ok_P (by kernel_rfl) (by kernel_rfl) (by kernel_rfl) ?_
  exact ok_nil
 replace hS:=SymF.fb hS hF [0,1,2,1001] [⟨p,cs9,t9_,false⟩,⟨(p1 0).N,#[.bool s,.slice a n c,.slice b k l],35,true⟩,⟨(p1 1).N,#[.slice none 0 0,.slice none 0 0,.slice none 0 0,.slice none 0 0,.int .i64 0],133,true⟩,⟨(p2 1).N,#[.slice (p2 0).A (p2 0).N (p2 0).C],28,true⟩] (by kernel_rfl) (by kernel_rfl)
 replace hG:GsAt (gM W1.heap.size (p2 0).A (p2 0).N (p2 0).C 1 :: _) W2:=⟨hF.fx 0,hF.gx⟩
 clear hF
 have z2:=hS.fr.size
 refine wp_symQ hS hG hK (fun p3=>[.v 11 (.pointer (some ⟨(p1 0).N,1,none⟩)),.l 12 (.agg #[.slice a n c]) 1 1,.l 13 (.agg #[.slice (p2 0).A (p2 0).N (p2 0).C]) 3 0,.v 14 (.pointer (some ⟨(p1 0).N,2,none⟩)),.l 15 (.agg #[.slice b k l]) 1 2,.l 16 (.agg #[.slice (p2 0).A (p2 0).N (p2 0).C]) 3 0,.v 17 (.int .i64 (-1)),.v 18 (.agg #[.slice a n c,.slice (p2 0).A (p2 0).N (p2 0).C,.slice b k l,.slice (p2 0).A (p2 0).N (p2 0).C,.int .i64 (-1)]),.n 8 #[.slice none 0 0,.slice none 0 0,.slice none 0 0,.slice none 0 0,.int .i64 0] 133,.p 1008 0 [.slice a n c,.slice (p2 0).A (p2 0).N (p2 0).C,.slice b k l,.slice (p2 0).A (p2 0).N (p2 0).C,.int .i64 (-1)]]) (fun p3=>[(0,.pointer (some ⟨p,0,none⟩)),(2,.int .i64 (-1)),(4,.pointer (some ⟨(p1 0).N,0,none⟩)),(6,.pointer (some ⟨(p1 1).N,0,none⟩)),(8,.pointer (some ⟨(p3 8).N,0,none⟩))]) (by kernel_rfl) (fun _ _=>by kernel_rfl) (fun _=>by kernel_rfl) (fun _=>by kernel_rfl) (fun p3=>?_) (fun p3 W3 T hF hK=>?_)
 ·refine ok_v (by kernel_rfl) ?_
  iterate 2 refine ok_L (by kernel_rfl) (by kernel_rfl) (by kernel_rfl) ?_
  refine ok_v (by kernel_rfl) ?_
  iterate 2 refine ok_L (by kernel_rfl) (by kernel_rfl) (by kernel_rfl) ?_
  iterate 2 refine ok_v (by kernel_rfl) ?_
  refine ok_n (fun _=>by kernel_rfl) ?_
  refine ok_P (by kernel_rfl) (by kernel_rfl) (by kernel_rfl) ?_
  exact ok_nil
 replace hS:=SymF.fb hS hF [0,1,2,1008] [⟨p,cs9,t9_,false⟩,⟨(p1 0).N,#[.bool s,.slice a n c,.slice b k l],35,true⟩,⟨(p1 1).N,#[.slice none 0 0,.slice none 0 0,.slice none 0 0,.slice none 0 0,.int .i64 0],133,true⟩,⟨(p3 8).N,#[.slice a n c,.slice (p2 0).A (p2 0).N (p2 0).C,.slice b k l,.slice (p2 0).A (p2 0).N (p2 0).C,.int .i64 (-1)],133,true⟩] (by kernel_rfl) (by kernel_rfl)
 replace hG:=hF.gx
 clear hF
 have z3:=hS.fr.size
 refine wp_symQ hS hG hK (fun p4=>[.v 19 (.pointer (some ⟨p,0,none⟩)),.v 20 (.pointer (some ⟨p,0,none⟩)),.v 21 (.pointer (some ⟨p,0,none⟩)),.v 22 (.int .i64 (-1)),.v 23 (.int .i64 (-1)),.v 24 (.int .i64 1),.v 25 (.int .i64 1),.c (some 26) (cO W3.heap.size 5),.v 27 (.agg #[.slice (p4 7).A (p4 7).N (p4 7).C]),.v 28 (.int .i64 0),.u 29 (.agg #[.slice (p4 7).A (p4 7).N (p4 7).C]) (aG 1),.n 9 #[.slice none 0 0] 28,.p 1011 0 [.slice (p4 7).A (p4 7).N (p4 7).C]]) (fun p4=>[(0,.pointer (some ⟨p,0,none⟩)),(2,.int .i64 (-1)),(4,.pointer (some ⟨(p1 0).N,0,none⟩)),(6,.pointer (some ⟨(p1 1).N,0,none⟩)),(8,.pointer (some ⟨(p3 8).N,0,none⟩)),(9,.pointer (some ⟨(p4 11).N,0,none⟩))]) (by kernel_rfl) (fun _ _=>by kernel_rfl) (fun _=>by kernel_rfl) (fun _=>by kernel_rfl) (fun p4=>?_) (fun p4 W4 T hF hK=>?_)
 ·iterate 7 refine ok_v (by kernel_rfl) ?_
  refine ok_c (fun W cx=>as_o cx.hb (unhide HP _)) (by kernel_rfl) ?_
  iterate 2 refine ok_v (by kernel_rfl) ?_
  refine ok_u (fun W cx=>runNat_0 p 0 _ _ _ _ ⟨_,_,cx.B 0 _ rfl (by kernel_rfl) (by kernel_rfl),hp0⟩) (by kernel_rfl) (by kernel_rfl) ?_
  refine ok_n (fun _=>by kernel_rfl) ?_
  refine ok_P (by kernel_rfl) (by kernel_rfl) (by kernel_rfl) ?_
  exact ok_nil
 replace hS:=SymF.fb hS hF [0,1,2,3,1011] [⟨p,cs9,t9_,false⟩,⟨(p1 0).N,#[.bool s,.slice a n c,.slice b k l],35,true⟩,⟨(p1 1).N,#[.slice none 0 0,.slice none 0 0,.slice none 0 0,.slice none 0 0,.int .i64 0],133,true⟩,⟨(p3 8).N,#[.slice a n c,.slice (p2 0).A (p2 0).N (p2 0).C,.slice b k l,.slice (p2 0).A (p2 0).N (p2 0).C,.int .i64 (-1)],133,true⟩,⟨(p4 11).N,#[.slice (p4 7).A (p4 7).N (p4 7).C],28,true⟩] (by kernel_rfl) (by kernel_rfl)
 replace hG:GsAt (gM W3.heap.size (p4 7).A (p4 7).N (p4 7).C 5 :: _) W4:=⟨hF.fx 7,hF.gx⟩
 clear hF
 have z4:=hS.fr.size
 refine wp_seq ?_
 refine wp_block ?_
 refine wp_symQ hS hG hK (fun p5=>[.v 33 (.int .i64 (-1)),.v 34 (.bool true),.v 32 (.bool true)]) (fun p5=>[(0,.pointer (some ⟨p,0,none⟩)),(2,.int .i64 (-1)),(4,.pointer (some ⟨(p1 0).N,0,none⟩)),(6,.pointer (some ⟨(p1 1).N,0,none⟩)),(8,.pointer (some ⟨(p3 8).N,0,none⟩)),(9,.pointer (some ⟨(p4 11).N,0,none⟩)),(32,.bool true)]) (by kernel_rfl) (fun _ _=>by kernel_rfl) (fun _=>by kernel_rfl) (fun _=>by kernel_rfl) (fun p5=>?_) (fun p5 W5 T hF hK=>?_)
 ·iterate 3 refine ok_v (by kernel_rfl) ?_
  exact ok_nil
 replace hS:=SymF.fb hS hF [0,1,2,3,4] [⟨p,cs9,t9_,false⟩,⟨(p1 0).N,#[.bool s,.slice a n c,.slice b k l],35,true⟩,⟨(p1 1).N,#[.slice none 0 0,.slice none 0 0,.slice none 0 0,.slice none 0 0,.int .i64 0],133,true⟩,⟨(p3 8).N,#[.slice a n c,.slice (p2 0).A (p2 0).N (p2 0).C,.slice b k l,.slice (p2 0).A (p2 0).N (p2 0).C,.int .i64 (-1)],133,true⟩,⟨(p4 11).N,#[.slice (p4 7).A (p4 7).N (p4 7).C],28,true⟩] (by kernel_rfl) (by kernel_rfl)
 replace hG:=hF.gx
 clear hF
 have z5:=hS.fr.size
 refine wp_cond_true (hK.ev 32 (by kernel_rfl) _ (by kernel_rfl)) ?_
 refine wp_symG hS hG hK (fun p6=>[.l 35 (.agg #[.slice (p4 7).A (p4 7).N (p4 7).C]) 4 0,.v 36 (.pointer (some ⟨(p3 8).N,3,none⟩)),.p 3 3 [.slice (p4 7).A (p4 7).N (p4 7).C]]) (fun p6=>[(0,.pointer (some ⟨p,0,none⟩)),(2,.int .i64 (-1)),(4,.pointer (some ⟨(p1 0).N,0,none⟩)),(6,.pointer (some ⟨(p1 1).N,0,none⟩)),(8,.pointer (some ⟨(p3 8).N,0,none⟩)),(9,.pointer (some ⟨(p4 11).N,0,none⟩)),(32,.bool true)]) (by kernel_rfl) (fun _ _=>by kernel_rfl) (fun _=>by kernel_rfl) (fun _=>by kernel_rfl) (fun p6=>?_) (fun p6 W6 T hF hK=>?_)
 ·refine ok_L (by kernel_rfl) (by kernel_rfl) (by kernel_rfl) ?_
  refine ok_v (by kernel_rfl) ?_
  refine ok_P (by kernel_rfl) (by kernel_rfl) (by kernel_rfl) ?_
  exact ok_nil
 replace hS:=SymF.fb hS hF [0,1,2,3,4] [⟨p,cs9,t9_,false⟩,⟨(p1 0).N,#[.bool s,.slice a n c,.slice b k l],35,true⟩,⟨(p1 1).N,#[.slice none 0 0,.slice none 0 0,.slice none 0 0,.slice none 0 0,.int .i64 0],133,true⟩,⟨(p3 8).N,#[.slice a n c,.slice (p2 0).A (p2 0).N (p2 0).C,.slice b k l,.slice (p4 7).A (p4 7).N (p4 7).C,.int .i64 (-1)],133,true⟩,⟨(p4 11).N,#[.slice (p4 7).A (p4 7).N (p4 7).C],28,true⟩] (by kernel_rfl) (by kernel_rfl)
 replace hG:=hF.gx
 clear hF
 have z6:=hS.fr.size
 refine inb_n ?_
 refine then_n ?_
 refine wp_symQ hS hG hK (fun p7=>[.l 51 (.agg #[.slice a n c,.slice (p2 0).A (p2 0).N (p2 0).C,.slice b k l,.slice (p4 7).A (p4 7).N (p4 7).C,.int .i64 (-1)]) 3 0,.p 2 0 [.slice a n c,.slice (p2 0).A (p2 0).N (p2 0).C,.slice b k l,.slice (p4 7).A (p4 7).N (p4 7).C,.int .i64 (-1)]]) (fun p7=>[(0,.pointer (some ⟨p,0,none⟩)),(2,.int .i64 (-1)),(4,.pointer (some ⟨(p1 0).N,0,none⟩)),(6,.pointer (some ⟨(p1 1).N,0,none⟩)),(8,.pointer (some ⟨(p3 8).N,0,none⟩)),(9,.pointer (some ⟨(p4 11).N,0,none⟩)),(32,.bool true)]) (by kernel_rfl) (fun _ _=>by kernel_rfl) (fun _=>by kernel_rfl) (fun _=>by kernel_rfl) (fun p7=>?_) (fun p7 W7 T hF hK=>?_)
 ·refine ok_L (by kernel_rfl) (by kernel_rfl) (by kernel_rfl) ?_
  refine ok_P (by kernel_rfl) (by kernel_rfl) (by kernel_rfl) ?_
  exact ok_nil
 replace hS:=SymF.fb hS hF [0,1,2,3,4] [⟨p,cs9,t9_,false⟩,⟨(p1 0).N,#[.bool s,.slice a n c,.slice b k l],35,true⟩,⟨(p1 1).N,#[.slice a n c,.slice (p2 0).A (p2 0).N (p2 0).C,.slice b k l,.slice (p4 7).A (p4 7).N (p4 7).C,.int .i64 (-1)],133,true⟩,⟨(p3 8).N,#[.slice a n c,.slice (p2 0).A (p2 0).N (p2 0).C,.slice b k l,.slice (p4 7).A (p4 7).N (p4 7).C,.int .i64 (-1)],133,true⟩,⟨(p4 11).N,#[.slice (p4 7).A (p4 7).N (p4 7).C],28,true⟩] (by kernel_rfl) (by kernel_rfl)
 replace hG:=hF.gx
 clear hF
 have z7:=hS.fr.size
 refine wp_ret ?_
 exact sym_end hS hK (.agg #[.slice a n c,.slice (p2 0).A (p2 0).N (p2 0).C,.slice b k l,.slice (p4 7).A (p4 7).N (p4 7).C,.int .i64 (-1)]) [(2,0,5)] [.slice a n c,.slice (p2 0).A (p2 0).N (p2 0).C,.slice b k l,.slice (p4 7).A (p4 7).N (p4 7).C,.int .i64 (-1)] (by kernel_rfl) (by kernel_rfl) ⟨⟨_,_,_,_,_,_,rfl,Mine.mono hG.2.1 z1,Mine.mono hG.1 z3⟩,hS.fr⟩
theorem sstand_is_m (w:World) (s:Bool) (a b:Option Addr) (n c k l x y i j:Nat) (sz e X:Int) (v M:Nat) (hT:Tb w) (h1:Num w a n x) (h2:Num w b k y) (hx:x≠0) (hi:i≤524288) (hj:j≤524288) (hz:(i:Int) - (j:Int)+(-3) = sz) (hz1:-4096≤sz) (hz2:sz≤4096) (HB1:Hid (HBits x i)) (HB2:Hid (HBits y j)) (HP:Hid HPow1) (HF:Hid (∀ (W:World) (p:Nat) (A:Option Addr) (N C:Nat) (A':Option Addr) (N' C':Nat),Rn W p 0→Num W a n x→Num W A N 1→Num W b k y→Num W A' N' 5→Calls Tryz.prog 81 #[.agg #[.slice a n c,.slice A N C,.slice b k l,.slice A' N' C',.int .i64 (-1)],.pointer (some ⟨p,0,none⟩)] W fun en W'=>(∃ A N C,en = .returned (.tuple #[.agg #[.slice A N C],.int .i64 e])∧Mine W' W.heap.size A N C v)∧Below W.heap.size W W')) (HK:Hid (∀ (W:World) (B:Nat) (A:Option Addr) (N C:Nat),Tb W→Mine W B A N C v→Calls Tryz.prog 54 #[.bool s,.agg #[.slice A N C],.int .i64 e] W fun en W'=>(∃ A N C,en = .returned (.tuple #[.agg #[.bool s,.slice A N C,.int .i64 X],.int .i64 0])∧Mine W' W.heap.size A N C M)∧Below W.heap.size W W')) :
  Calls Tryz.prog 35 #[.agg #[.bool s,.slice a n c,.slice b k l],.int .i64 (-1)] w fun en w'=>(∃ A N C,en = .returned (.tuple #[.agg #[.bool s,.slice A N C,.int .i64 X],.int .i64 0])∧Mine w' w.heap.size A N C M)∧Below w.heap.size w w':=by
 refine calls_sym Tryz.func35 rfl (by kernel_rfl) fun T hK=>?_
 replace hK:Kn T _ [(0,.agg #[.bool s,.slice a n c,.slice b k l]),(1,.int .i64 (-1))]:=hK
 have hS:=Fb.begin w
 have hG:GsAt [gN a n x,gN b k y] w:=⟨h1,h2,trivial⟩
 refine wp_symQ hS hG hK (fun p1=>[.n 2 #[.bool s,.slice a n c,.slice b k l] 35,.n 4 #[.bool false,.slice none 0 0,.int .i64 0] 30,.v 5 (.int .i64 0)]) (fun p1=>[(1,.int .i64 (-1)),(2,.pointer (some ⟨(p1 0).N,0,none⟩)),(4,.pointer (some ⟨(p1 1).N,0,none⟩)),(5,.int .i64 0)]) (by kernel_rfl) (fun _ _=>by kernel_rfl) (fun _=>by kernel_rfl) (fun _=>by kernel_rfl) (fun p1=>?_) (fun p1 W1 T hF hK=>?_)
 ·iterate 2 refine ok_n (fun _=>by kernel_rfl) ?_
  refine ok_v (by kernel_rfl) ?_
  exact ok_nil
 replace hS:=SymF.fb hS hF [1000,1001] [⟨(p1 0).N,#[.bool s,.slice a n c,.slice b k l],35,true⟩,⟨(p1 1).N,#[.bool false,.slice none 0 0,.int .i64 0],30,true⟩] (by kernel_rfl) (by kernel_rfl)
 replace hG:=hF.gx
 clear hF
 have z1:=hS.fr.size
 refine wp_seq ?_
 refine wp_symQ hS hG hK (fun p2=>[.v 10 (.pointer (some ⟨(p1 0).N,1,none⟩)),.l 11 (.agg #[.slice a n c]) 0 1,.c (some 12) (cV (.bool false))]) (fun p2=>[(1,.int .i64 (-1)),(2,.pointer (some ⟨(p1 0).N,0,none⟩)),(4,.pointer (some ⟨(p1 1).N,0,none⟩)),(5,.int .i64 0),(12,.bool false)]) (by kernel_rfl) (fun _ _=>by kernel_rfl) (fun _=>by kernel_rfl) (fun _=>by kernel_rfl) (fun p2=>?_) (fun p2 W2 T hF hK=>?_)
 ·refine ok_v (by kernel_rfl) ?_
  refine ok_L (by kernel_rfl) (by kernel_rfl) (by kernel_rfl) ?_
  refine ok_c (fun W cx=>as_v (snought a _ c _ _ (Num.noz (cx.G.1) hx))) (by kernel_rfl) ?_
  exact ok_nil
 replace hS:=SymF.fb hS hF [0,1] [⟨(p1 0).N,#[.bool s,.slice a n c,.slice b k l],35,true⟩,⟨(p1 1).N,#[.bool false,.slice none 0 0,.int .i64 0],30,true⟩] (by kernel_rfl) (by kernel_rfl)
 replace hG:=hF.gx
 clear hF
 have z2:=hS.fr.size
 refine wp_cond_false (hK.ev 12 (by kernel_rfl) _ (by kernel_rfl)) ?_
 refine wp_skip ?_
 refine then_n ?_
 refine wp_symQ hS hG hK (fun p3=>[.n 6 #[.int .i64 0] 129]) (fun p3=>[(1,.int .i64 (-1)),(2,.pointer (some ⟨(p1 0).N,0,none⟩)),(4,.pointer (some ⟨(p1 1).N,0,none⟩)),(5,.int .i64 0),(6,.pointer (some ⟨(p3 0).N,0,none⟩)),(12,.bool false)]) (by kernel_rfl) (fun _ _=>by kernel_rfl) (fun _=>by kernel_rfl) (fun _=>by kernel_rfl) (fun p3=>?_) (fun p3 W3 T hF hK=>?_)
 ·refine ok_n (fun _=>by kernel_rfl) ?_
  exact ok_nil
 replace hS:=SymF.fb hS hF [0,1,1000] [⟨(p1 0).N,#[.bool s,.slice a n c,.slice b k l],35,true⟩,⟨(p1 1).N,#[.bool false,.slice none 0 0,.int .i64 0],30,true⟩,⟨(p3 0).N,#[.int .i64 0],129,true⟩] (by kernel_rfl) (by kernel_rfl)
 replace hG:=hF.gx
 clear hF
 have z3:=hS.fr.size
 refine wp_symQ hS hG hK (fun p4=>[.l 14 (.agg #[.bool s,.slice a n c,.slice b k l]) 0 0,.v 15 (.int .i64 (-1)),.c (some 16) (cV (.int .i64 sz)),.v 7 (.int .i64 sz)]) (fun p4=>[(1,.int .i64 (-1)),(2,.pointer (some ⟨(p1 0).N,0,none⟩)),(4,.pointer (some ⟨(p1 1).N,0,none⟩)),(5,.int .i64 0),(6,.pointer (some ⟨(p3 0).N,0,none⟩)),(7,.int .i64 sz),(12,.bool false)]) (by kernel_rfl) (fun _ _=>by kernel_rfl) (fun _=>by kernel_rfl) (fun _=>by kernel_rfl) (fun p4=>?_) (fun p4 W4 T hF hK=>?_)
 ·refine ok_L (by kernel_rfl) (by kernel_rfl) (by kernel_rfl) ?_
  refine ok_v (by kernel_rfl) ?_
  refine ok_c (fun W cx=>as_v (ssize_is_m _ _ s a b n c k l x y i j sz ⟨_,_,cx.B 2 _ rfl (by kernel_rfl) (by kernel_rfl),rfl⟩ (cx.G.1) (cx.G.2.1) hi hj hz HB1 HB2)) (by kernel_rfl) ?_
  refine ok_v (by kernel_rfl) ?_
  exact ok_nil
 replace hS:=SymF.fb hS hF [0,1,2] [⟨(p1 0).N,#[.bool s,.slice a n c,.slice b k l],35,true⟩,⟨(p1 1).N,#[.bool false,.slice none 0 0,.int .i64 0],30,true⟩,⟨(p3 0).N,#[.int .i64 0],129,true⟩] (by kernel_rfl) (by kernel_rfl)
 replace hG:=hF.gx
 clear hF
 have z4:=hS.fr.size
 refine wp_seq ?_
 refine wp_symQ hS hG hK (fun p5=>[.v 17 (.int .i64 sz),.v 18 (.bool false),.v 19 (.bool false),.v 20 (.int .i64 sz),.v 21 (.bool false),.v 22 (.bool false)]) (fun p5=>[(1,.int .i64 (-1)),(2,.pointer (some ⟨(p1 0).N,0,none⟩)),(4,.pointer (some ⟨(p1 1).N,0,none⟩)),(5,.int .i64 0),(6,.pointer (some ⟨(p3 0).N,0,none⟩)),(7,.int .i64 sz),(12,.bool false),(22,.bool false)]) (by kernel_rfl) (fun _ _=>by kernel_rfl) (fun _=>by kernel_rfl) (fun _=>by kernel_rfl) (fun p5=>?_) (fun p5 W5 T hF hK=>?_)
 ·refine ok_v (by kernel_rfl) ?_
  refine ok_vb (decide_eq_false (show ¬ sz > 4096 by omega)) (by kernel_rfl) ?_
  iterate 2 refine ok_v (by kernel_rfl) ?_
  refine ok_vb (decide_eq_false (show ¬ sz < -4096 by omega)) (by kernel_rfl) ?_
  refine ok_v (by kernel_rfl) ?_
  exact ok_nil
 replace hS:=SymF.fb hS hF [0,1,2] [⟨(p1 0).N,#[.bool s,.slice a n c,.slice b k l],35,true⟩,⟨(p1 1).N,#[.bool false,.slice none 0 0,.int .i64 0],30,true⟩,⟨(p3 0).N,#[.int .i64 0],129,true⟩] (by kernel_rfl) (by kernel_rfl)
 replace hG:=hF.gx
 clear hF
 have z5:=hS.fr.size
 refine wp_cond_false (hK.ev 22 (by kernel_rfl) _ (by kernel_rfl)) ?_
 refine wp_skip ?_
 refine then_n ?_
 refine wp_symQ hS hG hK (fun p6=>[.l 31 (.agg #[.bool s,.slice a n c,.slice b k l]) 0 0,.v 32 (.int .i64 (-1)),.c (some 33) (cH W5.heap.size 1 5 fun x9 y9=>.agg #[.slice a n c,x9,.slice b k l,y9,.int .i64 (-1)]),.c (some 34) (cG W5.heap.size v fun x9=>.tuple #[.agg #[x9],.int .i64 e]),.v 30 (.tuple #[.agg #[.slice (p6 3).A (p6 3).N (p6 3).C],.int .i64 e]),.v 35 (.agg #[.slice (p6 3).A (p6 3).N (p6 3).C]),.v 36 (.int .i64 e),.n 8 #[.slice none 0 0] 28,.p 1007 0 [.slice (p6 3).A (p6 3).N (p6 3).C],.v 9 (.int .i64 e)]) (fun p6=>[(2,.pointer (some ⟨(p1 0).N,0,none⟩)),(4,.pointer (some ⟨(p1 1).N,0,none⟩)),(5,.int .i64 0),(6,.pointer (some ⟨(p3 0).N,0,none⟩)),(7,.int .i64 sz),(8,.pointer (some ⟨(p6 7).N,0,none⟩)),(9,.int .i64 e),(12,.bool false),(22,.bool false)]) (by kernel_rfl) (fun _ _=>by kernel_rfl) (fun _=>by kernel_rfl) (fun _=>by kernel_rfl) (fun p6=>?_) (fun p6 W6 T hF hK=>?_)
 ·refine ok_L (by kernel_rfl) (by kernel_rfl) (by kernel_rfl) ?_
  refine ok_v (by kernel_rfl) ?_
  refine ok_c (fun W cx=>as_h cx.hb (sscal_is_m _ _ s a b n c k l x y ⟨_,_,cx.B 2 _ rfl (by kernel_rfl) (by kernel_rfl),rfl⟩ (cx.G.1) (cx.G.2.1) HP)) (by kernel_rfl) ?_
  refine ok_c (fun W cx=>as_g cx.hb (unhide HF _ _ _ _ (p6 2).C _ _ (p6 2).C' ⟨_,_,cx.B 2 _ rfl (by kernel_rfl) (by kernel_rfl),rfl⟩ (cx.G.1) (Mine.num (And.left (cx.F 2 (by kernel_rfl)))) (cx.G.2.1) (Mine.num (And.right (cx.F 2 (by kernel_rfl)))))) (by kernel_rfl) ?_
  iterate 3 refine ok_v (by kernel_rfl) ?_
  refine ok_n (fun _=>by kernel_rfl) ?_
  refine ok_P (by kernel_rfl) (by kernel_rfl) (by kernel_rfl) ?_
  refine ok_v (by kernel_rfl) ?_
  exact ok_nil
 replace hS:=SymF.fb hS hF [0,1,2,1007] [⟨(p1 0).N,#[.bool s,.slice a n c,.slice b k l],35,true⟩,⟨(p1 1).N,#[.bool false,.slice none 0 0,.int .i64 0],30,true⟩,⟨(p3 0).N,#[.int .i64 0],129,true⟩,⟨(p6 7).N,#[.slice (p6 3).A (p6 3).N (p6 3).C],28,true⟩] (by kernel_rfl) (by kernel_rfl)
 replace hG:GsAt (gM W5.heap.size (p6 2).A (p6 2).N (p6 2).C 1 :: gM W5.heap.size (p6 2).A' (p6 2).N' (p6 2).C' 5 :: gM W5.heap.size (p6 3).A (p6 3).N (p6 3).C v :: _) W6:=⟨And.left (hF.fx 2),And.right (hF.fx 2),hF.fx 3,hF.gx⟩
 clear hF
 have z6:=hS.fr.size
 refine wp_seq ?_
 refine wp_symQ hS hG hK (fun p7=>[.v 37 (.pointer (some ⟨(p3 0).N,0,none⟩)),.v 38 (.pointer (some ⟨(p3 0).N,0,none⟩)),.l 39 (.int .i64 0) 2 0,.v 40 (.bool false)]) (fun p7=>[(2,.pointer (some ⟨(p1 0).N,0,none⟩)),(4,.pointer (some ⟨(p1 1).N,0,none⟩)),(5,.int .i64 0),(6,.pointer (some ⟨(p3 0).N,0,none⟩)),(7,.int .i64 sz),(8,.pointer (some ⟨(p6 7).N,0,none⟩)),(9,.int .i64 e),(12,.bool false),(22,.bool false),(40,.bool false)]) (by kernel_rfl) (fun _ _=>by kernel_rfl) (fun _=>by kernel_rfl) (fun _=>by kernel_rfl) (fun p7=>?_) (fun p7 W7 T hF hK=>?_)
 ·iterate 2 refine ok_v (by kernel_rfl) ?_
  refine ok_L (by kernel_rfl) (by kernel_rfl) (by kernel_rfl) ?_
  refine ok_v (by kernel_rfl) ?_
  exact ok_nil
 replace hS:=SymF.fb hS hF [0,1,2,3] [⟨(p1 0).N,#[.bool s,.slice a n c,.slice b k l],35,true⟩,⟨(p1 1).N,#[.bool false,.slice none 0 0,.int .i64 0],30,true⟩,⟨(p3 0).N,#[.int .i64 0],129,true⟩,⟨(p6 7).N,#[.slice (p6 3).A (p6 3).N (p6 3).C],28,true⟩] (by kernel_rfl) (by kernel_rfl)
 replace hG:=hF.gx
 clear hF
 have z7:=hS.fr.size
 refine wp_cond_false (hK.ev 40 (by kernel_rfl) _ (by kernel_rfl)) ?_
 refine wp_skip ?_
 refine then_n ?_
 refine wp_symQ hS hG hK (fun p8=>[.v 45 (.pointer (some ⟨(p1 0).N,0,none⟩)),.l 46 (.bool s) 0 0,.l 47 (.agg #[.slice (p6 3).A (p6 3).N (p6 3).C]) 3 0,.v 48 (.int .i64 e),.c (some 49) (cG W7.heap.size M fun x9=>.tuple #[.agg #[.bool s,x9,.int .i64 X],.int .i64 0]),.v 50 (.agg #[.bool s,.slice (p8 4).A (p8 4).N (p8 4).C,.int .i64 X]),.v 51 (.int .i64 0),.p 1 0 [.bool s,.slice (p8 4).A (p8 4).N (p8 4).C,.int .i64 X],.v 5 (.int .i64 0)]) (fun p8=>[(2,.pointer (some ⟨(p1 0).N,0,none⟩)),(4,.pointer (some ⟨(p1 1).N,0,none⟩)),(5,.int .i64 0),(6,.pointer (some ⟨(p3 0).N,0,none⟩)),(7,.int .i64 sz),(12,.bool false),(22,.bool false),(40,.bool false)]) (by kernel_rfl) (fun _ _=>by kernel_rfl) (fun _=>by kernel_rfl) (fun _=>by kernel_rfl) (fun p8=>?_) (fun p8 W8 T hF hK=>?_)
 ·refine ok_v (by kernel_rfl) ?_
  iterate 2 refine ok_L (by kernel_rfl) (by kernel_rfl) (by kernel_rfl) ?_
  refine ok_v (by kernel_rfl) ?_
  refine ok_c (fun W cx=>as_g cx.hb (unhide HK _ _ _ _ _ (hT.kept cx.fr) cx.G.2.2.1)) (by kernel_rfl) ?_
  iterate 2 refine ok_v (by kernel_rfl) ?_
  refine ok_P (by kernel_rfl) (by kernel_rfl) (by kernel_rfl) ?_
  refine ok_v (by kernel_rfl) ?_
  exact ok_nil
 replace hS:=SymF.fb hS hF [0,1,2] [⟨(p1 0).N,#[.bool s,.slice a n c,.slice b k l],35,true⟩,⟨(p1 1).N,#[.bool s,.slice (p8 4).A (p8 4).N (p8 4).C,.int .i64 X],30,true⟩,⟨(p3 0).N,#[.int .i64 0],129,true⟩] (by kernel_rfl) (by kernel_rfl)
 replace hG:GsAt (gM W7.heap.size (p8 4).A (p8 4).N (p8 4).C M :: _) W8:=⟨hF.fx 4,hF.gx⟩
 clear hF
 have z8:=hS.fr.size
 refine wp_ret ?_
 exact sym_end hS hK (.tuple #[.agg #[.bool s,.slice (p8 4).A (p8 4).N (p8 4).C,.int .i64 X],.int .i64 0]) [(1,0,3)] [.bool s,.slice (p8 4).A (p8 4).N (p8 4).C,.int .i64 X] (by kernel_rfl) (by kernel_rfl) ⟨⟨_,_,_,rfl,Mine.mono hG.1 z7⟩,hS.fr⟩
theorem sscaled_is_m (w:World) (E F md:Nat) (s ng:Bool) (a b:Option Addr) (n c k l x y:Nat) (X:Int) (M bt fl:Nat) (hfo:Fo E F) (hm:md≤4) (hT:Tb w) (h1:Num w a n x) (h2:Num w b k y) (HC:Hid (∀ W:World,Num W a n x→Num W b k y→Calls Tryz.prog 24 #[.agg #[.bool s,.slice a n c,.slice b k l]] W fun e W'=>e = .returned (.int .i64 0)∧Below W.heap.size W W')) (HD:Hid (∀ W:World,Tb W→Num W a n x→Num W b k y→Calls Tryz.prog 35 #[.agg #[.bool s,.slice a n c,.slice b k l],.int .i64 (-1)] W fun en W'=>(∃ A N C,en = .returned (.tuple #[.agg #[.bool s,.slice A N C,.int .i64 X],.int .i64 0])∧Mine W' W.heap.size A N C M)∧Below W.heap.size W W')) (HR:Hid (∀ (W:World) (B:Nat) (A:Option Addr) (N C:Nat),Mine W B A N C M→Calls Tryz.prog 33 #[.agg #[.int .i64 E,.int .i64 F],.agg #[.bool s,.slice A N C,.int .i64 X],.bool ng,.int .u8 (md:Int)] W fun e W'=>e = .returned (.tuple #[.int .u64 (bt:Int),.int .u8 (fl:Int),.int .i64 0])∧Below W.heap.size W W')) :
  Calls Tryz.prog 11 #[.agg #[.int .i64 (E:Int),.int .i64 (F:Int)],.agg #[.bool s,.slice a n c,.slice b k l],.int .i64 (-1),.bool ng,.int .u8 (md:Int)] w fun en w'=>en = .returned (.tuple #[.int .u64 (bt:Int),.int .u8 (fl:Int),.int .i64 0])∧Below w.heap.size w w':=by
 refine calls_sym Tryz.func11 rfl (by kernel_rfl) fun T hK=>?_
 replace hK:Kn T _ [(0,.agg #[.int .i64 (E:Int),.int .i64 (F:Int)]),(1,.agg #[.bool s,.slice a n c,.slice b k l]),(2,.int .i64 (-1)),(3,.bool ng),(4,.int .u8 (md:Int))]:=hK
 have hS:=Fb.begin w
 have hG:GsAt [gN a n x,gN b k y] w:=⟨h1,h2,trivial⟩
 refine wp_symQ hS hG hK (fun p1=>[.n 5 #[.int .i64 (E:Int),.int .i64 (F:Int)] 23,.n 6 #[.bool s,.slice a n c,.slice b k l] 35,.v 10 (.int .u64 0),.v 11 (.int .u8 0),.v 12 (.int .i64 0)]) (fun p1=>[(2,.int .i64 (-1)),(3,.bool ng),(4,.int .u8 (md:Int)),(5,.pointer (some ⟨(p1 0).N,0,none⟩)),(6,.pointer (some ⟨(p1 1).N,0,none⟩)),(10,.int .u64 0),(11,.int .u8 0),(12,.int .i64 0)]) (by kernel_rfl) (fun _ _=>by kernel_rfl) (fun _=>by kernel_rfl) (fun _=>by kernel_rfl) (fun p1=>?_) (fun p1 W1 T hF hK=>?_)
 ·iterate 2 refine ok_n (fun _=>by kernel_rfl) ?_
  iterate 3 refine ok_v (by kernel_rfl) ?_
  exact ok_nil
 replace hS:=SymF.fb hS hF [1000,1001] [⟨(p1 0).N,#[.int .i64 (E:Int),.int .i64 (F:Int)],23,true⟩,⟨(p1 1).N,#[.bool s,.slice a n c,.slice b k l],35,true⟩] (by kernel_rfl) (by kernel_rfl)
 replace hG:=hF.gx
 clear hF
 have z1:=hS.fr.size
 refine wp_seq ?_
 refine wp_symQ hS hG hK (fun p2=>[.l 17 (.agg #[.int .i64 (E:Int),.int .i64 (F:Int)]) 0 0,.c (some 18) (cV (.int .i64 0)),.v 13 (.int .i64 0)]) (fun p2=>[(2,.int .i64 (-1)),(3,.bool ng),(4,.int .u8 (md:Int)),(5,.pointer (some ⟨(p1 0).N,0,none⟩)),(6,.pointer (some ⟨(p1 1).N,0,none⟩)),(10,.int .u64 0),(11,.int .u8 0),(12,.int .i64 0),(13,.int .i64 0)]) (by kernel_rfl) (fun _ _=>by kernel_rfl) (fun _=>by kernel_rfl) (fun _=>by kernel_rfl) (fun p2=>?_) (fun p2 W2 T hF hK=>?_)
 ·refine ok_L (by kernel_rfl) (by kernel_rfl) (by kernel_rfl) ?_
  refine ok_c (fun W cx=>as_v (check_ok _ _ _ hfo)) (by kernel_rfl) ?_
  refine ok_v (by kernel_rfl) ?_
  exact ok_nil
 replace hS:=SymF.fb hS hF [0,1] [⟨(p1 0).N,#[.int .i64 (E:Int),.int .i64 (F:Int)],23,true⟩,⟨(p1 1).N,#[.bool s,.slice a n c,.slice b k l],35,true⟩] (by kernel_rfl) (by kernel_rfl)
 replace hG:=hF.gx
 clear hF
 have z2:=hS.fr.size
 refine wp_symQ hS hG hK (fun p3=>[.v 19 (.int .i64 0),.v 20 (.bool false)]) (fun p3=>[(2,.int .i64 (-1)),(3,.bool ng),(4,.int .u8 (md:Int)),(5,.pointer (some ⟨(p1 0).N,0,none⟩)),(6,.pointer (some ⟨(p1 1).N,0,none⟩)),(10,.int .u64 0),(11,.int .u8 0),(12,.int .i64 0),(13,.int .i64 0),(20,.bool false)]) (by kernel_rfl) (fun _ _=>by kernel_rfl) (fun _=>by kernel_rfl) (fun _=>by kernel_rfl) (fun p3=>?_) (fun p3 W3 T hF hK=>?_)
 ·iterate 2 refine ok_v (by kernel_rfl) ?_
  exact ok_nil
 replace hS:=SymF.fb hS hF [0,1] [⟨(p1 0).N,#[.int .i64 (E:Int),.int .i64 (F:Int)],23,true⟩,⟨(p1 1).N,#[.bool s,.slice a n c,.slice b k l],35,true⟩] (by kernel_rfl) (by kernel_rfl)
 replace hG:=hF.gx
 clear hF
 have z3:=hS.fr.size
 refine wp_cond_false (hK.ev 20 (by kernel_rfl) _ (by kernel_rfl)) ?_
 refine wp_skip ?_
 refine then_n ?_
 refine wp_seq ?_
 refine wp_symQ hS hG hK (fun p4=>[.l 22 (.agg #[.bool s,.slice a n c,.slice b k l]) 1 0,.v 23 (.int .u8 (md:Int)),.c (some 24) (cV (.int .i64 0)),.v 14 (.int .i64 0)]) (fun p4=>[(2,.int .i64 (-1)),(3,.bool ng),(4,.int .u8 (md:Int)),(5,.pointer (some ⟨(p1 0).N,0,none⟩)),(6,.pointer (some ⟨(p1 1).N,0,none⟩)),(10,.int .u64 0),(11,.int .u8 0),(12,.int .i64 0),(13,.int .i64 0),(14,.int .i64 0),(20,.bool false)]) (by kernel_rfl) (fun _ _=>by kernel_rfl) (fun _=>by kernel_rfl) (fun _=>by kernel_rfl) (fun p4=>?_) (fun p4 W4 T hF hK=>?_)
 ·refine ok_L (by kernel_rfl) (by kernel_rfl) (by kernel_rfl) ?_
  refine ok_v (by kernel_rfl) ?_
  refine ok_c (fun W cx=>as_v (tcheckF_ok s a n c b k l md hm _ (hide fun W9 hb9=>unhide HC W9 (Num.kept (cx.G.1) hb9) (Num.kept (cx.G.2.1) hb9)))) (by kernel_rfl) ?_
  refine ok_v (by kernel_rfl) ?_
  exact ok_nil
 replace hS:=SymF.fb hS hF [0,1] [⟨(p1 0).N,#[.int .i64 (E:Int),.int .i64 (F:Int)],23,true⟩,⟨(p1 1).N,#[.bool s,.slice a n c,.slice b k l],35,true⟩] (by kernel_rfl) (by kernel_rfl)
 replace hG:=hF.gx
 clear hF
 have z4:=hS.fr.size
 refine wp_symQ hS hG hK (fun p5=>[.v 25 (.int .i64 0),.v 26 (.bool false)]) (fun p5=>[(2,.int .i64 (-1)),(3,.bool ng),(4,.int .u8 (md:Int)),(5,.pointer (some ⟨(p1 0).N,0,none⟩)),(6,.pointer (some ⟨(p1 1).N,0,none⟩)),(10,.int .u64 0),(11,.int .u8 0),(12,.int .i64 0),(13,.int .i64 0),(14,.int .i64 0),(20,.bool false),(26,.bool false)]) (by kernel_rfl) (fun _ _=>by kernel_rfl) (fun _=>by kernel_rfl) (fun _=>by kernel_rfl) (fun p5=>?_) (fun p5 W5 T hF hK=>?_)
 ·iterate 2 refine ok_v (by kernel_rfl) ?_
  exact ok_nil
 replace hS:=SymF.fb hS hF [0,1] [⟨(p1 0).N,#[.int .i64 (E:Int),.int .i64 (F:Int)],23,true⟩,⟨(p1 1).N,#[.bool s,.slice a n c,.slice b k l],35,true⟩] (by kernel_rfl) (by kernel_rfl)
 replace hG:=hF.gx
 clear hF
 have z5:=hS.fr.size
 refine wp_cond_false (hK.ev 26 (by kernel_rfl) _ (by kernel_rfl)) ?_
 refine wp_skip ?_
 refine then_n ?_
 refine wp_symQ hS hG hK (fun p6=>[.l 29 (.agg #[.bool s,.slice a n c,.slice b k l]) 1 0,.v 30 (.int .i64 (-1)),.c (some 31) (cG W5.heap.size M fun x9=>.tuple #[.agg #[.bool s,x9,.int .i64 X],.int .i64 0]),.v 28 (.tuple #[.agg #[.bool s,.slice (p6 2).A (p6 2).N (p6 2).C,.int .i64 X],.int .i64 0]),.v 32 (.agg #[.bool s,.slice (p6 2).A (p6 2).N (p6 2).C,.int .i64 X]),.v 33 (.int .i64 0),.n 15 #[.bool false,.slice none 0 0,.int .i64 0] 30,.p 1006 0 [.bool s,.slice (p6 2).A (p6 2).N (p6 2).C,.int .i64 X],.v 16 (.int .i64 0)]) (fun p6=>[(3,.bool ng),(4,.int .u8 (md:Int)),(5,.pointer (some ⟨(p1 0).N,0,none⟩)),(10,.int .u64 0),(11,.int .u8 0),(12,.int .i64 0),(13,.int .i64 0),(14,.int .i64 0),(15,.pointer (some ⟨(p6 6).N,0,none⟩)),(16,.int .i64 0),(20,.bool false),(26,.bool false)]) (by kernel_rfl) (fun _ _=>by kernel_rfl) (fun _=>by kernel_rfl) (fun _=>by kernel_rfl) (fun p6=>?_) (fun p6 W6 T hF hK=>?_)
 ·refine ok_L (by kernel_rfl) (by kernel_rfl) (by kernel_rfl) ?_
  refine ok_v (by kernel_rfl) ?_
  refine ok_c (fun W cx=>as_g cx.hb (unhide HD _ (hT.kept cx.fr) (cx.G.1) (cx.G.2.1))) (by kernel_rfl) ?_
  iterate 3 refine ok_v (by kernel_rfl) ?_
  refine ok_n (fun _=>by kernel_rfl) ?_
  refine ok_P (by kernel_rfl) (by kernel_rfl) (by kernel_rfl) ?_
  refine ok_v (by kernel_rfl) ?_
  exact ok_nil
 replace hS:=SymF.fb hS hF [0,1006] [⟨(p1 0).N,#[.int .i64 (E:Int),.int .i64 (F:Int)],23,true⟩,⟨(p6 6).N,#[.bool s,.slice (p6 2).A (p6 2).N (p6 2).C,.int .i64 X],30,true⟩] (by kernel_rfl) (by kernel_rfl)
 replace hG:GsAt (gM W5.heap.size (p6 2).A (p6 2).N (p6 2).C M :: _) W6:=⟨hF.fx 2,hF.gx⟩
 clear hF
 have z6:=hS.fr.size
 refine wp_seq ?_
 refine wp_symQ hS hG hK (fun p7=>[.v 34 (.int .i64 0),.v 35 (.bool false)]) (fun p7=>[(3,.bool ng),(4,.int .u8 (md:Int)),(5,.pointer (some ⟨(p1 0).N,0,none⟩)),(10,.int .u64 0),(11,.int .u8 0),(12,.int .i64 0),(13,.int .i64 0),(14,.int .i64 0),(15,.pointer (some ⟨(p6 6).N,0,none⟩)),(16,.int .i64 0),(20,.bool false),(26,.bool false),(35,.bool false)]) (by kernel_rfl) (fun _ _=>by kernel_rfl) (fun _=>by kernel_rfl) (fun _=>by kernel_rfl) (fun p7=>?_) (fun p7 W7 T hF hK=>?_)
 ·iterate 2 refine ok_v (by kernel_rfl) ?_
  exact ok_nil
 replace hS:=SymF.fb hS hF [0,1] [⟨(p1 0).N,#[.int .i64 (E:Int),.int .i64 (F:Int)],23,true⟩,⟨(p6 6).N,#[.bool s,.slice (p6 2).A (p6 2).N (p6 2).C,.int .i64 X],30,true⟩] (by kernel_rfl) (by kernel_rfl)
 replace hG:=hF.gx
 clear hF
 have z7:=hS.fr.size
 refine wp_cond_false (hK.ev 35 (by kernel_rfl) _ (by kernel_rfl)) ?_
 refine wp_skip ?_
 refine then_n ?_
 refine wp_symQ hS hG hK (fun p8=>[.l 37 (.agg #[.int .i64 (E:Int),.int .i64 (F:Int)]) 0 0,.l 38 (.agg #[.bool s,.slice (p6 2).A (p6 2).N (p6 2).C,.int .i64 X]) 1 0,.v 39 (.bool ng),.v 40 (.int .u8 (md:Int)),.c (some 41) (cV (.tuple #[.int .u64 (bt:Int),.int .u8 (fl:Int),.int .i64 0])),.v 42 (.int .u64 (bt:Int)),.v 43 (.int .u8 (fl:Int)),.v 44 (.int .i64 0),.v 10 (.int .u64 (bt:Int)),.v 11 (.int .u8 (fl:Int)),.v 12 (.int .i64 0)]) (fun p8=>[(10,.int .u64 (bt:Int)),(11,.int .u8 (fl:Int)),(12,.int .i64 0),(13,.int .i64 0),(14,.int .i64 0),(16,.int .i64 0),(20,.bool false),(26,.bool false),(35,.bool false)]) (by kernel_rfl) (fun _ _=>by kernel_rfl) (fun _=>by kernel_rfl) (fun _=>by kernel_rfl) (fun p8=>?_) (fun p8 W8 T hF hK=>?_)
 ·iterate 2 refine ok_L (by kernel_rfl) (by kernel_rfl) (by kernel_rfl) ?_
  iterate 2 refine ok_v (by kernel_rfl) ?_
  refine ok_c (fun W cx=>as_v (unhide HR _ _ _ _ _ cx.G.1)) (by kernel_rfl) ?_
  iterate 6 refine ok_v (by kernel_rfl) ?_
  exact ok_nil
 replace hS:=SymF.fb hS hF [] [] (by kernel_rfl) (by kernel_rfl)
 replace hG:=hF.gx
 clear hF
 have z8:=hS.fr.size
 refine wp_ret ?_
 exact sym_end hS hK (.tuple #[.int .u64 (bt:Int),.int .u8 (fl:Int),.int .i64 0]) [] [] (by kernel_rfl) (by kernel_rfl) ⟨rfl,hS.fr⟩
def gMore (m u d v:Nat):Nat:=65+blen v+blen d - (blen (sOne m d)+blen u)
def gAll (m u d v:Nat):Nat:=sOne m d * (u * 2 ^ gMore m u d v)
def gAns (m u d v:Nat):Nat:=if gAll m u d v % (d * v) = 0 then 2 * (gAll m u d v / (d * v)) else 2 * (gAll m u d v / (d * v))+1
def gExp (x:Int) (m u d v:Nat):Int:=x - (sLift m d:Int) - (gMore m u d v:Int) - 1
theorem mod_two {T d v:Nat} (hd:0 < d):T % (d * v) = 0↔T % d = 0∧T / d % v = 0:=by
 rw [Nat.mod_mul]
 constructor
 ·intro h
  have h1:T % d = 0:=by omega
  have h2:d * (T / d % v) = 0:=by omega
  exact ⟨h1,(Nat.mul_eq_zero.1 h2).resolve_left (by omega)⟩
 ·intro ⟨h1,h2⟩
  rw [h1,h2]; rfl
theorem gfirst_any (x:Int) (hx1:-2147483648≤x) (hx2:x≤2147483648) (W:World) (p:Nat) (a1 a2 a3 a4:Option Addr) (n1 n2 n3 n4 c1 c2 c3 c4 m u d v:Nat) (hk:Rn W p 0) (h1:Num W a1 n1 m) (h2:Num W a2 n2 u) (h3:Num W a3 n3 d) (h4:Num W a4 n4 v) (hd:0 < d) (hv:0 < v) (bm:blen m≤100000) (bd:blen d≤100000) (bu:blen u≤10) (bv:blen v≤10) (hr:blen d≤blen m+4096) :
  Calls Tryz.prog 81 #[.agg #[.slice a1 n1 c1,.slice a2 n2 c2,.slice a3 n3 c3,.slice a4 n4 c4,.int .i64 x],.pointer (some ⟨p,0,none⟩)] W fun en W'=>(∃ A N C,en = .returned (.tuple #[.agg #[.slice A N C],.int .i64 (gExp x m u d v)])∧Mine W' W.heap.size A N C (gAns m u d v))∧Below W.heap.size W W':=by
 obtain ⟨lift,hlift⟩:∃ lift,sLift m d = lift:=⟨_,rfl⟩
 obtain ⟨t1,ht1⟩:∃ t1,sOne m d = t1:=⟨_,rfl⟩
 obtain ⟨more,hmore⟩:∃ more,gMore m u d v = more:=⟨_,rfl⟩
 obtain ⟨t2,ht2⟩:∃ t2,u * 2 ^ more = t2:=⟨_,rfl⟩
 have el:lift≤4096:=by rw [← hlift]; unfold sLift; omega
 have em:more≤100075:=by rw [← hmore]; unfold gMore; omega
 obtain ⟨K0,hK0⟩:∃ K,K = 100000:=⟨_,rfl⟩
 obtain ⟨K4,hK4⟩:∃ K,K = 4096:=⟨_,rfl⟩
 obtain ⟨K5,hK5⟩:∃ K,K = 10:=⟨_,rfl⟩
 obtain ⟨K6,hK6⟩:∃ K,K = 100075:=⟨_,rfl⟩
 obtain ⟨K1,hK1⟩:∃ K,K = 104096:=⟨_,rfl⟩
 obtain ⟨K2,hK2⟩:∃ K,K = 100085:=⟨_,rfl⟩
 obtain ⟨K3,hK3⟩:∃ K,K = 204181:=⟨_,rfl⟩
 have b1:t1 < 2 ^ K1:=by
  rw [← ht1]; unfold sOne
  rw [hlift,show K1 = K0+K4 from by omega,Nat.pow_add]
  exact Nat.mul_lt_mul_of_lt_of_le (blen_lt (by omega)) (Nat.pow_le_pow_right (by omega) (by omega)) (Nat.pow_pos (by omega))
 have b2:t2 < 2 ^ K2:=by
  rw [← ht2,show K2 = K5+K6 from by omega,Nat.pow_add]
  exact Nat.mul_lt_mul_of_lt_of_le (blen_lt (by omega)) (Nat.pow_le_pow_right (by omega) (by omega)) (Nat.pow_pos (by omega))
 have b3:t1 * t2 < 2 ^ K3:=by
  rw [show K3 = K1+K2 from by omega,Nat.pow_add]
  exact Nat.mul_lt_mul_of_lt_of_le b1 (Nat.le_of_lt b2) (Nat.pow_pos (by omega))
 have hall:gAll m u d v = t1 * t2:=by unfold gAll; rw [ht1,hmore,ht2]
 obtain ⟨e1,e2⟩:=parts_div (t:=t1) (f:=t2) hd
 have hq:t1 * t2 / d≤t1 * t2:=Nat.div_le_self _ _
 have hq2:t1 * t2 / d / v≤t1 * t2 / d:=Nat.div_le_self _ _
 have l1:t1 / d * t2≤t1 * t2 / d:=by rw [← e1]; exact Nat.le_add_right _ _
 have l2:t1 % d * t2≤t1 * t2:=Nat.mul_le_mul_right _ (Nat.mod_le _ _)
 have i5:blen t1≤104096:=by have:=(bl_blen t1).le_of b1; omega
 have p0:2 ^ K3 * 2 = 2 ^ (K3+1):=(Nat.pow_succ ..).symm
 have lt9:∀ {w:Nat},w < 2 ^ K3 * 2→¬ Over w:=fun {w} h=>no_over (K:=K3+1) (by rw [← p0]; exact h) (by omega)
 have o2:¬ Over (u * 2 ^ more):=by rw [ht2]; exact no_over (K:=K2) b2 (by omega)
 have o1:¬ Over t1:=no_over (K:=K1) b1 (by omega)
 obtain ⟨T,hT⟩:∃ T,2 ^ K3 = T:=⟨_,rfl⟩
 rw [hT] at b3 lt9
 have hT1:1 < T:=by rw [← hT]; exact Nat.one_lt_two_pow (by omega)
 clear p0 hT b1 b2
 have key:=sfirst_is W p a1 a2 a3 a4 n1 n2 n3 n4 c1 c2 c3 c4 m u d v (blen m) (blen u) (blen d) (blen v) (blen t1) lift more t1 t2 (t1 / d) (t1 % d) (t1 % d * t2 / d) (t1 / d * t2) (t1 * t2 / d) (t1 * t2 / d / v) (t1 * t2 / d % v) (t1 * t2 / d / v * 2) (t1 * t2 / d / v * 2+1) x ((blen t1:Int)+(blen u:Int) - 1 - (blen d:Int)) (!decide (t1 % d * t2 % d = 0)) (gAns m u d v) hk h1 h2 h3 h4 (by omega) (by omega) (by omega) (by omega) (by omega)
  (by rw [← hlift]; unfold sLift; omega) rfl (by rw [← hmore]; unfold gMore; rw [ht1]; omega) (by omega) (by omega) hx1 hx2
  (hide (by
   rw [e2]
   unfold gAns
   rw [hall,← Nat.div_div_eq_div_mul]
   by_cases hz:t1 * t2 % d = 0
   ·right
    by_cases hy:t1 * t2 / d % v = 0
    ·right
     rw [if_pos ((mod_two hd).2 ⟨hz,hy⟩)]
     exact ⟨by simp [hz],hy,by omega⟩
    ·left
     rw [if_neg (fun q=>hy ((mod_two hd).1 q).2)]
     exact ⟨by simp [hz],hy,by omega⟩
   ·left
    rw [if_neg (fun q=>hz ((mod_two hd).1 q).1)]
    exact ⟨by simp [hz],by omega⟩))
  (hide (hbits m)) (hide (hbits u)) (hide (hbits d)) (hide (hbits v)) (hide (hbits t1))
  (hide (by have:=hup (m:=m) (k:=lift) (by omega) (by rw [← hlift]; rw [← ht1] at o1; exact o1); rw [show m * 2 ^ lift = t1 from by rw [← ht1,← hlift]; rfl] at this; exact this))
  (hide (by have:=hup (m:=u) (k:=more) (by omega) o2; rw [ht2] at this; exact this))
  (hide (hdiv hd))
  (hide fun W a n c b k l d9 m9 e9 q1 q2 q3 q4=>sshare_is W p a b d9 n c k l m9 e9 (t1 % d) t2 d (t1 % d * t2) _ _ q1 q2 q3 q4 (hide (hmul (lt9 (by omega)))) (hide (hdiv hd)))
  (hide (hmul (lt9 (by omega)))) (hide (by have:=hadd (x:=t1 / d * t2) (y:=t1 % d * t2 / d) (lt9 (by omega)); rw [e1] at this; exact this))
  (hide (hdiv hv))
  (hide (by have:=hup (m:=t1 * t2 / d / v) (k:=1) (by omega) (lt9 (by rw [Nat.pow_one]; omega)); rw [Nat.pow_one] at this; exact this))
  (hide (hadd (lt9 (by omega))))
 have ee:x - (lift:Int) - (more:Int) - 1 = gExp x m u d v:=by unfold gExp; rw [hlift,hmore]
 rw [ee] at key
 exact key
theorem hpow1:HPow1:=fun W=>by
 have:=pow_any 5 1 W (by omega) (by omega)
 exact this.mono fun _ _ ⟨h1,hb⟩=>⟨ans_ok h1 (no_over (K:=3) (by decide) (by omega)),hb⟩
theorem pos_blen {m:Nat} (h:0 < m):2 ^ (blen m - 1)≤m∧blen m≠0:=by
 have hb:=bl_blen m
 have h0:blen m≠0:=fun e=>by have:=hb.1; rw [e] at this; simp at this; omega
 exact ⟨hb.2.resolve_left h0,h0⟩
theorem gbits {m u d v:Nat} (h0:0 < m) (hu:0 < u) (hd:0 < d) (hv:0 < v):60≤blen (gAll m u d v / (d * v)):=by
 have h1:0 < sOne m d:=Nat.mul_pos h0 (Nat.pow_pos (by omega))
 have a1:=pos_blen h1
 have a2:=pos_blen hu
 have hdv:d * v≤2 ^ (blen d+blen v):=by rw [Nat.pow_add]; exact Nat.mul_le_mul (Nat.le_of_lt (bl_blen d).1) (Nat.le_of_lt (bl_blen v).1)
 have h2:2 ^ (60+(blen d+blen v))≤gAll m u d v:=by
  unfold gAll
  refine Nat.le_trans ?_ (Nat.mul_le_mul a1.1 (Nat.mul_le_mul_right _ a2.1))
  rw [← Nat.pow_add,← Nat.pow_add]
  exact Nat.pow_le_pow_right (by omega) (by unfold gMore; omega)
 have h3:2 ^ 60≤gAll m u d v / (d * v):=by
  rw [Nat.le_div_iff_mul_le (Nat.mul_pos hd hv)]
  refine Nat.le_trans (Nat.mul_le_mul_left _ hdv) ?_
  rw [← Nat.pow_add]; exact h2
 have:=(bl_blen (gAll m u d v / (d * v))).gt_of h3
 omega
theorem gAll_is (m u d v:Nat):gAll m u d v = m * u * 2 ^ (sLift m d+gMore m u d v):=by
 unfold gAll sOne
 rw [Nat.pow_add]; ac_rfl
theorem gAns_tz {m u d v:Nat} (h0:0 < m) (hu:0 < u) (hd:0 < d) (hv:0 < v) (bm:blen m≤100000) (bd:blen d≤100000) (bu:blen u≤10) (bv:blen v≤10) (hr:blen d≤blen m+4096):∃ z q,gAns m u d v = 2 ^ z * (2 * q+1)∧z≤300000:=by
 obtain ⟨K,hK⟩:∃ K,K = 210000:=⟨_,rfl⟩
 have hl:sLift m d≤4096:=by unfold sLift; omega
 have hmo:gMore m u d v≤100075:=by unfold gMore; omega
 have hall:gAll m u d v < 2 ^ K:=by
  rw [gAll_is]
  refine Nat.lt_of_lt_of_le (Nat.mul_lt_mul_of_pos_right (Nat.mul_lt_mul_of_lt_of_le (bl_blen m).1 (Nat.le_of_lt (bl_blen u).1) (Nat.pow_pos (by omega))) (Nat.pow_pos (by omega))) ?_
  rw [← Nat.pow_add,← Nat.pow_add]
  exact Nat.pow_le_pow_right (by omega) (by omega)
 have hdv:0 < d * v:=Nat.mul_pos hd hv
 generalize hD:d * v = D at hdv
 generalize hA:gAll m u d v = T at hall
 have hpos:0 < T:=by rw [← hA,gAll_is]; exact Nat.mul_pos (Nat.mul_pos h0 hu) (Nat.pow_pos (by omega))
 have hdm:=Nat.div_add_mod T D
 have hdl:T / D≤T:=Nat.div_le_self _ _
 have ha:gAns m u d v = if T % D = 0 then 2 * (T / D) else 2 * (T / D)+1:=by unfold gAns; rw [hA,hD]
 rw [ha]
 have a1:0 < (if T % D = 0 then 2 * (T / D) else 2 * (T / D)+1):=by
  split
  ·next e=>
   rw [e] at hdm
   rcases Nat.eq_zero_or_pos (T / D) with q|q
   ·rw [q] at hdm; omega
   ·omega
  ·omega
 have a2:(if T % D = 0 then 2 * (T / D) else 2 * (T / D)+1) < 2 ^ (K+1):=by
  rw [Nat.pow_succ]
  split <;> omega
 obtain ⟨z,⟨q,hq⟩,hz⟩:=tz_ex a1 a2
 exact ⟨z,q,hq,by omega⟩
theorem gsti_p {m d z q K:Nat} (h0:0 < m) (hd:0 < d) (hz:gAns m 5 d 1 = 2 ^ z * (2 * q+1)) (hK:Bl (2 * q+1) K):Sti (m * 10) d (d * 1) 1 (sLift m d+gMore m 5 d 1) (gAll m 5 d 1) (blen (gAll m 5 d 1 / (d * 1))) z (2 * q+1) K (gExp 1 m 5 d 1+(z:Int)):=by
 refine ⟨?_,by omega,by omega,by unfold gAns at hz; rw [hz,Nat.mul_comm],by omega,hK,bl_blen _,gbits h0 (by omega) hd (by omega),by unfold gExp; omega⟩
 rw [gAll_is]
 rw [Nat.pow_one,Nat.mul_one,show m * 10 = m * 5 * 2 from by omega]; ac_rfl
theorem sscaled_p {E F S I B md:Nat} (h:Fm E F S I) (hB:B = 2 ^ (E - 1) - 1) (hm:md≤4) (ng s:Bool) (a b:Option Addr) (n c k l m d:Nat) (w:World) (hT:Tb w) (h1:Num w a n m) (h2:Num w b k d) (h0:0 < m) (hd:0 < d) (bm:blen m≤100000) (bd:blen d≤100000) (hr1:blen d≤blen m+4000) (hr2:blen m≤blen d+4000)
  (HC:Hid (∀ W:World,Num W a n m→Num W b k d→Calls Tryz.prog 24 #[.agg #[.bool s,.slice a n c,.slice b k l]] W fun e W'=>e = .returned (.int .i64 0)∧Below W.heap.size W W')) (z q K:Nat) (hq:gAns m 5 d 1 = 2 ^ z * (2 * q+1)) (hz2:z≤300000) (hK:Bl (2 * q+1) K) :
  Calls Tryz.prog 11 #[.agg #[.int .i64 E,.int .i64 F],.agg #[.bool s,.slice a n c,.slice b k l],.int .i64 1,.bool ng,.int .u8 (md:Int)] w fun e w'=>e = .returned (.tuple #[.int .u64 (bitsR S I md s (rowR B F md s (2 * q+1) K (gExp 1 m 5 d 1+(z:Int))):Int),.int .u8 (flagR B F I md s (2 * q+1) K (gExp 1 m 5 d 1+(z:Int)):Int),.int .i64 0])∧Below w.heap.size w w':=by
 have b5:blen 5 = 3:=by decide
 have b1:blen 1 = 1:=by decide
 have hX2:-204300≤gExp 1 m 5 d 1∧gExp 1 m 5 d 1≤1:=by unfold gExp sLift gMore; omega
 have hdiv:gAns m 5 d 1 / 2 ^ z = 2 * q+1:=by rw [hq,Nat.mul_div_cancel_left _ (Nat.pow_pos (by omega))]
 obtain ⟨X,hX⟩:∃ X:Int,gExp 1 m 5 d 1+(z:Int) = X:=⟨_,rfl⟩
 rw [hX]
 refine sscaled_is_p w E F md s ng a b n c k l m d X (2 * q+1) _ _ h.fo hm hT h1 h2 HC (hide fun W t9 r1 r2=>?_) (hide fun W B9 A N C g=>?_)
 ·refine sstand_is_p W s a b n c k l m d (blen m) (blen d) ((blen m:Int) - (blen d:Int)+3) (gExp 1 m 5 d 1) X (gAns m 5 d 1) (2 * q+1) t9 r1 r2 (by omega) (by omega) (by omega) rfl (by omega) (by omega) (hide (hbits m)) (hide (hbits d)) (hide hpow1) (hide fun W p A N C A' N' C' x1 x2 x3 x4 x5=>gfirst_any 1 (by decide) (by decide) W p a A b A' n N k N' c C l C' m 5 d 1 x1 x2 x3 x4 x5 hd (by omega) bm bd (by omega) (by omega) (by omega)) (hide fun W B9 A N C t8 g=>?_)
  obtain ⟨g1,g2⟩:=mine_caps g
  have:=make_ok s A N C (gAns m 5 d 1) z (gExp 1 m 5 d 1) W g.num (by rw [hq]; exact Nat.mul_pos (Nat.pow_pos (by omega)) (by omega)) t8 ⟨q,hq⟩ (by omega) g1 g2 (by omega)
  rw [hdiv,hX] at this
  exact this
 ·exact rounded_any h hB hm ng s A N C (2 * q+1) K X W B9 g ⟨by omega,by omega,by omega⟩ hK
theorem gsti_m {m d z q K:Nat} (h0:0 < m) (hd:0 < d) (hz:gAns m 1 d 5 = 2 ^ z * (2 * q+1)) (hK:Bl (2 * q+1) K):Sti m (d * 10) (d * 5) 0 (sLift m d+gMore m 1 d 5+1) (gAll m 1 d 5) (blen (gAll m 1 d 5 / (d * 5))) z (2 * q+1) K (gExp (-1) m 1 d 5+(z:Int)):=by
 refine ⟨?_,by omega,by omega,by unfold gAns at hz; rw [hz,Nat.mul_comm],by omega,hK,bl_blen _,gbits h0 (by omega) hd (by omega),by unfold gExp; omega⟩
 rw [gAll_is]
 rw [Nat.pow_zero,Nat.mul_one,Nat.mul_one,Nat.pow_succ,show d * 10 = d * 5 * 2 from by omega]; ac_rfl
theorem sscaled_m {E F S I B md:Nat} (h:Fm E F S I) (hB:B = 2 ^ (E - 1) - 1) (hm:md≤4) (ng s:Bool) (a b:Option Addr) (n c k l m d:Nat) (w:World) (hT:Tb w) (h1:Num w a n m) (h2:Num w b k d) (h0:0 < m) (hd:0 < d) (bm:blen m≤100000) (bd:blen d≤100000) (hr1:blen d≤blen m+4000) (hr2:blen m≤blen d+4000)
  (HC:Hid (∀ W:World,Num W a n m→Num W b k d→Calls Tryz.prog 24 #[.agg #[.bool s,.slice a n c,.slice b k l]] W fun e W'=>e = .returned (.int .i64 0)∧Below W.heap.size W W')) (z q K:Nat) (hq:gAns m 1 d 5 = 2 ^ z * (2 * q+1)) (hz2:z≤300000) (hK:Bl (2 * q+1) K) :
  Calls Tryz.prog 11 #[.agg #[.int .i64 E,.int .i64 F],.agg #[.bool s,.slice a n c,.slice b k l],.int .i64 (-1),.bool ng,.int .u8 (md:Int)] w fun e w'=>e = .returned (.tuple #[.int .u64 (bitsR S I md s (rowR B F md s (2 * q+1) K (gExp (-1) m 1 d 5+(z:Int))):Int),.int .u8 (flagR B F I md s (2 * q+1) K (gExp (-1) m 1 d 5+(z:Int)):Int),.int .i64 0])∧Below w.heap.size w w':=by
 have b5:blen 5 = 3:=by decide
 have b1:blen 1 = 1:=by decide
 have hX2:-204300≤gExp (-1) m 1 d 5∧gExp (-1) m 1 d 5≤1:=by unfold gExp sLift gMore; omega
 have hdiv:gAns m 1 d 5 / 2 ^ z = 2 * q+1:=by rw [hq,Nat.mul_div_cancel_left _ (Nat.pow_pos (by omega))]
 obtain ⟨X,hX⟩:∃ X:Int,gExp (-1) m 1 d 5+(z:Int) = X:=⟨_,rfl⟩
 rw [hX]
 refine sscaled_is_m w E F md s ng a b n c k l m d X (2 * q+1) _ _ h.fo hm hT h1 h2 HC (hide fun W t9 r1 r2=>?_) (hide fun W B9 A N C g=>?_)
 ·refine sstand_is_m W s a b n c k l m d (blen m) (blen d) ((blen m:Int) - (blen d:Int)+(-3)) (gExp (-1) m 1 d 5) X (gAns m 1 d 5) (2 * q+1) t9 r1 r2 (by omega) (by omega) (by omega) rfl (by omega) (by omega) (hide (hbits m)) (hide (hbits d)) (hide hpow1) (hide fun W p A N C A' N' C' x1 x2 x3 x4 x5=>gfirst_any (-1) (by decide) (by decide) W p a A b A' n N k N' c C l C' m 1 d 5 x1 x2 x3 x4 x5 hd (by omega) bm bd (by omega) (by omega) (by omega)) (hide fun W B9 A N C t8 g=>?_)
  obtain ⟨g1,g2⟩:=mine_caps g
  have:=make_ok s A N C (gAns m 1 d 5) z (gExp (-1) m 1 d 5) W g.num (by rw [hq]; exact Nat.mul_pos (Nat.pow_pos (by omega)) (by omega)) t8 ⟨q,hq⟩ (by omega) g1 g2 (by omega)
  rw [hdiv,hX] at this
  exact this
 ·exact rounded_any h hB hm ng s A N C (2 * q+1) K X W B9 g ⟨by omega,by omega,by omega⟩ hK
end Go.Proofs.YtbbhlfngjoongaaGreatDoor
