/- Of what RoundMirrorRow stands on: SRdB TnWhole SRdC SMono SMono2 SMono3 SMono4 SKey SNames. -/
import Derived.Test.YtbbhlfngjoongaaGreatDoorPbe
import Derived.Test.YtbbhlfngjoongaaGreatDoorPba
import Derived.Test.YtbbhlfngjoongaaGreatDoorPax
import Derived.Test.YtbbhlfngjoongaaGreatDoorPaj
import Derived.Test.YtbbhlfngjoongaaGreatDoorPbd
namespace Go.Proofs.YtbbhlfngjoongaaGreatDoor
open Go.RowKit
set_option maxHeartbeats 4000000
set_option maxRecDepth 20000
theorem sstand_is (w:World) (s:Bool) (a b:Option Addr) (n c k l x y i j:Nat) (sz e X:Int) (v M:Nat) (hT:Tb w) (h1:Num w a n x) (h2:Num w b k y) (hx:x≠0) (hi:i≤524288) (hj:j≤524288) (hz:(i:Int) - (j:Int) = sz) (hz1:-4096≤sz) (hz2:sz≤4096) (HB1:Hid (HBits x i)) (HB2:Hid (HBits y j)) (HP:Hid HPow0) (HF:Hid (∀ (W:World) (p:Nat) (A:Option Addr) (N C:Nat) (A':Option Addr) (N' C':Nat),Rn W p 0→Num W a n x→Num W A N 1→Num W b k y→Num W A' N' 1→Calls Tryz.prog 81 #[.agg #[.slice a n c,.slice A N C,.slice b k l,.slice A' N' C',.int .i64 0],.pointer (some ⟨p,0,none⟩)] W fun en W'=>(∃ A N C,en = .returned (.tuple #[.agg #[.slice A N C],.int .i64 e])∧Mine W' W.heap.size A N C v)∧Below W.heap.size W W')) (HK:Hid (∀ (W:World) (B:Nat) (A:Option Addr) (N C:Nat),Tb W→Mine W B A N C v→Calls Tryz.prog 54 #[.bool s,.agg #[.slice A N C],.int .i64 e] W fun en W'=>(∃ A N C,en = .returned (.tuple #[.agg #[.bool s,.slice A N C,.int .i64 X],.int .i64 0])∧Mine W' W.heap.size A N C M)∧Below W.heap.size W W')) :
  Calls Tryz.prog 35 #[.agg #[.bool s,.slice a n c,.slice b k l],.int .i64 0] w fun en w'=>(∃ A N C,en = .returned (.tuple #[.agg #[.bool s,.slice A N C,.int .i64 X],.int .i64 0])∧Mine w' w.heap.size A N C M)∧Below w.heap.size w w':=by
 refine calls_sym Tryz.func35 rfl (by kernel_rfl) fun T hK=>?_
 replace hK:Kn T _ [(0,.agg #[.bool s,.slice a n c,.slice b k l]),(1,.int .i64 0)]:=hK
 have hS:=Fb.begin w
 have hG:GsAt [gN a n x,gN b k y] w:=⟨h1,h2,trivial⟩
 refine wp_symQ hS hG hK (fun p1=>[.n 2 #[.bool s,.slice a n c,.slice b k l] 35,.n 4 #[.bool false,.slice none 0 0,.int .i64 0] 30,.v 5 (.int .i64 0)]) (fun p1=>[(1,.int .i64 0),(2,.pointer (some ⟨(p1 0).N,0,none⟩)),(4,.pointer (some ⟨(p1 1).N,0,none⟩)),(5,.int .i64 0)]) (by kernel_rfl) (fun _ _=>by kernel_rfl) (fun _=>by kernel_rfl) (fun _=>by kernel_rfl) (fun p1=>?_) (fun p1 W1 T hF hK=>?_)
 ·iterate 2 refine ok_n (fun _=>by kernel_rfl) ?_
  refine ok_v (by kernel_rfl) ?_
  exact ok_nil
 replace hS:=SymF.fb hS hF [1000,1001] [⟨(p1 0).N,#[.bool s,.slice a n c,.slice b k l],35,true⟩,⟨(p1 1).N,#[.bool false,.slice none 0 0,.int .i64 0],30,true⟩] (by kernel_rfl) (by kernel_rfl)
 replace hG:=hF.gx
 clear hF
 have z1:=hS.fr.size
 refine wp_seq ?_
 refine wp_symQ hS hG hK (fun p2=>[.v 10 (.pointer (some ⟨(p1 0).N,1,none⟩)),.l 11 (.agg #[.slice a n c]) 0 1,.c (some 12) (cV (.bool false))]) (fun p2=>[(1,.int .i64 0),(2,.pointer (some ⟨(p1 0).N,0,none⟩)),(4,.pointer (some ⟨(p1 1).N,0,none⟩)),(5,.int .i64 0),(12,.bool false)]) (by kernel_rfl) (fun _ _=>by kernel_rfl) (fun _=>by kernel_rfl) (fun _=>by kernel_rfl) (fun p2=>?_) (fun p2 W2 T hF hK=>?_)
 ·refine ok_v (by kernel_rfl) ?_
  refine ok_L (by kernel_rfl) (by kernel_rfl) (by kernel_rfl) ?_
  refine ok_c (fun W cx=>as_v (snought a _ c _ _ (Num.noz (cx.G.1) hx))) (by kernel_rfl) ?_
  exact ok_nil
 replace hS:=SymF.fb hS hF [0,1] [⟨(p1 0).N,#[.bool s,.slice a n c,.slice b k l],35,true⟩,⟨(p1 1).N,#[.bool false,.slice none 0 0,.int .i64 0],30,true⟩] (by kernel_rfl) (by kernel_rfl)
 replace hG:=hF.gx
 clear hF
 have z2:=hS.fr.size
 refine wp_cond_false (hK.ev 12 (by kernel_rfl) _ (by kernel_rfl)) ?_
 refine wp_skip ?_
 refine then_n ?_
 refine wp_symQ hS hG hK (fun p3=>[.n 6 #[.int .i64 0] 129]) (fun p3=>[(1,.int .i64 0),(2,.pointer (some ⟨(p1 0).N,0,none⟩)),(4,.pointer (some ⟨(p1 1).N,0,none⟩)),(5,.int .i64 0),(6,.pointer (some ⟨(p3 0).N,0,none⟩)),(12,.bool false)]) (by kernel_rfl) (fun _ _=>by kernel_rfl) (fun _=>by kernel_rfl) (fun _=>by kernel_rfl) (fun p3=>?_) (fun p3 W3 T hF hK=>?_)
 ·refine ok_n (fun _=>by kernel_rfl) ?_
  exact ok_nil
 replace hS:=SymF.fb hS hF [0,1,1000] [⟨(p1 0).N,#[.bool s,.slice a n c,.slice b k l],35,true⟩,⟨(p1 1).N,#[.bool false,.slice none 0 0,.int .i64 0],30,true⟩,⟨(p3 0).N,#[.int .i64 0],129,true⟩] (by kernel_rfl) (by kernel_rfl)
 replace hG:=hF.gx
 clear hF
 have z3:=hS.fr.size
 refine wp_symQ hS hG hK (fun p4=>[.l 14 (.agg #[.bool s,.slice a n c,.slice b k l]) 0 0,.v 15 (.int .i64 0),.c (some 16) (cV (.int .i64 sz)),.v 7 (.int .i64 sz)]) (fun p4=>[(1,.int .i64 0),(2,.pointer (some ⟨(p1 0).N,0,none⟩)),(4,.pointer (some ⟨(p1 1).N,0,none⟩)),(5,.int .i64 0),(6,.pointer (some ⟨(p3 0).N,0,none⟩)),(7,.int .i64 sz),(12,.bool false)]) (by kernel_rfl) (fun _ _=>by kernel_rfl) (fun _=>by kernel_rfl) (fun _=>by kernel_rfl) (fun p4=>?_) (fun p4 W4 T hF hK=>?_)
 ·refine ok_L (by kernel_rfl) (by kernel_rfl) (by kernel_rfl) ?_
  refine ok_v (by kernel_rfl) ?_
  refine ok_c (fun W cx=>as_v (ssize_is _ _ s a b n c k l x y i j sz ⟨_,_,cx.B 2 _ rfl (by kernel_rfl) (by kernel_rfl),rfl⟩ (cx.G.1) (cx.G.2.1) hi hj hz HB1 HB2)) (by kernel_rfl) ?_
  refine ok_v (by kernel_rfl) ?_
  exact ok_nil
 replace hS:=SymF.fb hS hF [0,1,2] [⟨(p1 0).N,#[.bool s,.slice a n c,.slice b k l],35,true⟩,⟨(p1 1).N,#[.bool false,.slice none 0 0,.int .i64 0],30,true⟩,⟨(p3 0).N,#[.int .i64 0],129,true⟩] (by kernel_rfl) (by kernel_rfl)
 replace hG:=hF.gx
 clear hF
 have z4:=hS.fr.size
 refine wp_seq ?_
 refine wp_symQ hS hG hK (fun p5=>[.v 17 (.int .i64 sz),.v 18 (.bool false),.v 19 (.bool false),.v 20 (.int .i64 sz),.v 21 (.bool false),.v 22 (.bool false)]) (fun p5=>[(1,.int .i64 0),(2,.pointer (some ⟨(p1 0).N,0,none⟩)),(4,.pointer (some ⟨(p1 1).N,0,none⟩)),(5,.int .i64 0),(6,.pointer (some ⟨(p3 0).N,0,none⟩)),(7,.int .i64 sz),(12,.bool false),(22,.bool false)]) (by kernel_rfl) (fun _ _=>by kernel_rfl) (fun _=>by kernel_rfl) (fun _=>by kernel_rfl) (fun p5=>?_) (fun p5 W5 T hF hK=>?_)
 ·refine ok_v (by kernel_rfl) ?_
  refine ok_vb (decide_eq_false (show ¬ sz > 4096 by omega)) (by kernel_rfl) ?_
  iterate 2 refine ok_v (by kernel_rfl) ?_
  refine ok_vb (decide_eq_false (show ¬ sz < -4096 by omega)) (by kernel_rfl) ?_
  refine ok_v (by kernel_rfl) ?_
  exact ok_nil
 replace hS:=SymF.fb hS hF [0,1,2] [⟨(p1 0).N,#[.bool s,.slice a n c,.slice b k l],35,true⟩,⟨(p1 1).N,#[.bool false,.slice none 0 0,.int .i64 0],30,true⟩,⟨(p3 0).N,#[.int .i64 0],129,true⟩] (by kernel_rfl) (by kernel_rfl)
 replace hG:=hF.gx
 clear hF
 have z5:=hS.fr.size
 refine wp_cond_false (hK.ev 22 (by kernel_rfl) _ (by kernel_rfl)) ?_
 refine wp_skip ?_
 refine then_n ?_
 refine wp_symQ hS hG hK (fun p6=>[.l 31 (.agg #[.bool s,.slice a n c,.slice b k l]) 0 0,.v 32 (.int .i64 0),.c (some 33) (cH W5.heap.size 1 1 fun x9 y9=>.agg #[.slice a n c,x9,.slice b k l,y9,.int .i64 0]),.c (some 34) (cG W5.heap.size v fun x9=>.tuple #[.agg #[x9],.int .i64 e]),.v 30 (.tuple #[.agg #[.slice (p6 3).A (p6 3).N (p6 3).C],.int .i64 e]),.v 35 (.agg #[.slice (p6 3).A (p6 3).N (p6 3).C]),.v 36 (.int .i64 e),.n 8 #[.slice none 0 0] 28,.p 1007 0 [.slice (p6 3).A (p6 3).N (p6 3).C],.v 9 (.int .i64 e)]) (fun p6=>[(2,.pointer (some ⟨(p1 0).N,0,none⟩)),(4,.pointer (some ⟨(p1 1).N,0,none⟩)),(5,.int .i64 0),(6,.pointer (some ⟨(p3 0).N,0,none⟩)),(7,.int .i64 sz),(8,.pointer (some ⟨(p6 7).N,0,none⟩)),(9,.int .i64 e),(12,.bool false),(22,.bool false)]) (by kernel_rfl) (fun _ _=>by kernel_rfl) (fun _=>by kernel_rfl) (fun _=>by kernel_rfl) (fun p6=>?_) (fun p6 W6 T hF hK=>?_)
 ·refine ok_L (by kernel_rfl) (by kernel_rfl) (by kernel_rfl) ?_
  refine ok_v (by kernel_rfl) ?_
  refine ok_c (fun W cx=>as_h cx.hb (sscal_is _ _ s a b n c k l x y ⟨_,_,cx.B 2 _ rfl (by kernel_rfl) (by kernel_rfl),rfl⟩ (cx.G.1) (cx.G.2.1) HP)) (by kernel_rfl) ?_
  refine ok_c (fun W cx=>as_g cx.hb (unhide HF _ _ _ _ (p6 2).C _ _ (p6 2).C' ⟨_,_,cx.B 2 _ rfl (by kernel_rfl) (by kernel_rfl),rfl⟩ (cx.G.1) (Mine.num (And.left (cx.F 2 (by kernel_rfl)))) (cx.G.2.1) (Mine.num (And.right (cx.F 2 (by kernel_rfl)))))) (by kernel_rfl) ?_
  iterate 3 refine ok_v (by kernel_rfl) ?_
  refine ok_n (fun _=>by kernel_rfl) ?_
  refine ok_P (by kernel_rfl) (by kernel_rfl) (by kernel_rfl) ?_
  refine ok_v (by kernel_rfl) ?_
  exact ok_nil
 replace hS:=SymF.fb hS hF [0,1,2,1007] [⟨(p1 0).N,#[.bool s,.slice a n c,.slice b k l],35,true⟩,⟨(p1 1).N,#[.bool false,.slice none 0 0,.int .i64 0],30,true⟩,⟨(p3 0).N,#[.int .i64 0],129,true⟩,⟨(p6 7).N,#[.slice (p6 3).A (p6 3).N (p6 3).C],28,true⟩] (by kernel_rfl) (by kernel_rfl)
 replace hG:GsAt (gM W5.heap.size (p6 2).A (p6 2).N (p6 2).C 1 :: gM W5.heap.size (p6 2).A' (p6 2).N' (p6 2).C' 1 :: gM W5.heap.size (p6 3).A (p6 3).N (p6 3).C v :: _) W6:=⟨And.left (hF.fx 2),And.right (hF.fx 2),hF.fx 3,hF.gx⟩
 clear hF
 have z6:=hS.fr.size
 refine wp_seq ?_
 refine wp_symQ hS hG hK (fun p7=>[.v 37 (.pointer (some ⟨(p3 0).N,0,none⟩)),.v 38 (.pointer (some ⟨(p3 0).N,0,none⟩)),.l 39 (.int .i64 0) 2 0,.v 40 (.bool false)]) (fun p7=>[(2,.pointer (some ⟨(p1 0).N,0,none⟩)),(4,.pointer (some ⟨(p1 1).N,0,none⟩)),(5,.int .i64 0),(6,.pointer (some ⟨(p3 0).N,0,none⟩)),(7,.int .i64 sz),(8,.pointer (some ⟨(p6 7).N,0,none⟩)),(9,.int .i64 e),(12,.bool false),(22,.bool false),(40,.bool false)]) (by kernel_rfl) (fun _ _=>by kernel_rfl) (fun _=>by kernel_rfl) (fun _=>by kernel_rfl) (fun p7=>?_) (fun p7 W7 T hF hK=>?_)
 ·iterate 2 refine ok_v (by kernel_rfl) ?_
  refine ok_L (by kernel_rfl) (by kernel_rfl) (by kernel_rfl) ?_
  refine ok_v (by kernel_rfl) ?_
  exact ok_nil
 replace hS:=SymF.fb hS hF [0,1,2,3] [⟨(p1 0).N,#[.bool s,.slice a n c,.slice b k l],35,true⟩,⟨(p1 1).N,#[.bool false,.slice none 0 0,.int .i64 0],30,true⟩,⟨(p3 0).N,#[.int .i64 0],129,true⟩,⟨(p6 7).N,#[.slice (p6 3).A (p6 3).N (p6 3).C],28,true⟩] (by kernel_rfl) (by kernel_rfl)
 replace hG:=hF.gx
 clear hF
 have z7:=hS.fr.size
 refine wp_cond_false (hK.ev 40 (by kernel_rfl) _ (by kernel_rfl)) ?_
 refine wp_skip ?_
 refine then_n ?_
 refine wp_symQ hS hG hK (fun p8=>[.v 45 (.pointer (some ⟨(p1 0).N,0,none⟩)),.l 46 (.bool s) 0 0,.l 47 (.agg #[.slice (p6 3).A (p6 3).N (p6 3).C]) 3 0,.v 48 (.int .i64 e),.c (some 49) (cG W7.heap.size M fun x9=>.tuple #[.agg #[.bool s,x9,.int .i64 X],.int .i64 0]),.v 50 (.agg #[.bool s,.slice (p8 4).A (p8 4).N (p8 4).C,.int .i64 X]),.v 51 (.int .i64 0),.p 1 0 [.bool s,.slice (p8 4).A (p8 4).N (p8 4).C,.int .i64 X],.v 5 (.int .i64 0)]) (fun p8=>[(2,.pointer (some ⟨(p1 0).N,0,none⟩)),(4,.pointer (some ⟨(p1 1).N,0,none⟩)),(5,.int .i64 0),(6,.pointer (some ⟨(p3 0).N,0,none⟩)),(7,.int .i64 sz),(12,.bool false),(22,.bool false),(40,.bool false)]) (by kernel_rfl) (fun _ _=>by kernel_rfl) (fun _=>by kernel_rfl) (fun _=>by kernel_rfl) (fun p8=>?_) (fun p8 W8 T hF hK=>?_)
 ·refine ok_v (by kernel_rfl) ?_
  iterate 2 refine ok_L (by kernel_rfl) (by kernel_rfl) (by kernel_rfl) ?_
  refine ok_v (by kernel_rfl) ?_
  refine ok_c (fun W cx=>as_g cx.hb (unhide HK _ _ _ _ _ (hT.kept cx.fr) cx.G.2.2.1)) (by kernel_rfl) ?_
  iterate 2 refine ok_v (by kernel_rfl) ?_
  refine ok_P (by kernel_rfl) (by kernel_rfl) (by kernel_rfl) ?_
  refine ok_v (by kernel_rfl) ?_
  exact ok_nil
 replace hS:=SymF.fb hS hF [0,1,2] [⟨(p1 0).N,#[.bool s,.slice a n c,.slice b k l],35,true⟩,⟨(p1 1).N,#[.bool s,.slice (p8 4).A (p8 4).N (p8 4).C,.int .i64 X],30,true⟩,⟨(p3 0).N,#[.int .i64 0],129,true⟩] (by kernel_rfl) (by kernel_rfl)
 replace hG:GsAt (gM W7.heap.size (p8 4).A (p8 4).N (p8 4).C M :: _) W8:=⟨hF.fx 4,hF.gx⟩
 clear hF
 have z8:=hS.fr.size
 refine wp_ret ?_
 exact sym_end hS hK (.tuple #[.agg #[.bool s,.slice (p8 4).A (p8 4).N (p8 4).C,.int .i64 X],.int .i64 0]) [(1,0,3)] [.bool s,.slice (p8 4).A (p8 4).N (p8 4).C,.int .i64 X] (by kernel_rfl) (by kernel_rfl) ⟨⟨_,_,_,rfl,Mine.mono hG.1 z7⟩,hS.fr⟩
theorem sscaled_is (w:World) (E F md:Nat) (s ng:Bool) (a b:Option Addr) (n c k l x y:Nat) (X:Int) (M bt fl:Nat) (hfo:Fo E F) (hm:md≤4) (hT:Tb w) (h1:Num w a n x) (h2:Num w b k y) (HC:Hid (∀ W:World,Num W a n x→Num W b k y→Calls Tryz.prog 24 #[.agg #[.bool s,.slice a n c,.slice b k l]] W fun e W'=>e = .returned (.int .i64 0)∧Below W.heap.size W W')) (HD:Hid (∀ W:World,Tb W→Num W a n x→Num W b k y→Calls Tryz.prog 35 #[.agg #[.bool s,.slice a n c,.slice b k l],.int .i64 0] W fun en W'=>(∃ A N C,en = .returned (.tuple #[.agg #[.bool s,.slice A N C,.int .i64 X],.int .i64 0])∧Mine W' W.heap.size A N C M)∧Below W.heap.size W W')) (HR:Hid (∀ (W:World) (B:Nat) (A:Option Addr) (N C:Nat),Mine W B A N C M→Calls Tryz.prog 33 #[.agg #[.int .i64 E,.int .i64 F],.agg #[.bool s,.slice A N C,.int .i64 X],.bool ng,.int .u8 (md:Int)] W fun e W'=>e = .returned (.tuple #[.int .u64 (bt:Int),.int .u8 (fl:Int),.int .i64 0])∧Below W.heap.size W W')) :
  Calls Tryz.prog 11 #[.agg #[.int .i64 (E:Int),.int .i64 (F:Int)],.agg #[.bool s,.slice a n c,.slice b k l],.int .i64 0,.bool ng,.int .u8 (md:Int)] w fun en w'=>en = .returned (.tuple #[.int .u64 (bt:Int),.int .u8 (fl:Int),.int .i64 0])∧Below w.heap.size w w':=by
 refine calls_sym Tryz.func11 rfl (by kernel_rfl) fun T hK=>?_
 replace hK:Kn T _ [(0,.agg #[.int .i64 (E:Int),.int .i64 (F:Int)]),(1,.agg #[.bool s,.slice a n c,.slice b k l]),(2,.int .i64 0),(3,.bool ng),(4,.int .u8 (md:Int))]:=hK
 have hS:=Fb.begin w
 have hG:GsAt [gN a n x,gN b k y] w:=⟨h1,h2,trivial⟩
 refine wp_symQ hS hG hK (fun p1=>[.n 5 #[.int .i64 (E:Int),.int .i64 (F:Int)] 23,.n 6 #[.bool s,.slice a n c,.slice b k l] 35,.v 10 (.int .u64 0),.v 11 (.int .u8 0),.v 12 (.int .i64 0)]) (fun p1=>[(2,.int .i64 0),(3,.bool ng),(4,.int .u8 (md:Int)),(5,.pointer (some ⟨(p1 0).N,0,none⟩)),(6,.pointer (some ⟨(p1 1).N,0,none⟩)),(10,.int .u64 0),(11,.int .u8 0),(12,.int .i64 0)]) (by kernel_rfl) (fun _ _=>by kernel_rfl) (fun _=>by kernel_rfl) (fun _=>by kernel_rfl) (fun p1=>?_) (fun p1 W1 T hF hK=>?_)
 ·iterate 2 refine ok_n (fun _=>by kernel_rfl) ?_
  iterate 3 refine ok_v (by kernel_rfl) ?_
  exact ok_nil
 replace hS:=SymF.fb hS hF [1000,1001] [⟨(p1 0).N,#[.int .i64 (E:Int),.int .i64 (F:Int)],23,true⟩,⟨(p1 1).N,#[.bool s,.slice a n c,.slice b k l],35,true⟩] (by kernel_rfl) (by kernel_rfl)
 replace hG:=hF.gx
 clear hF
 have z1:=hS.fr.size
 refine wp_seq ?_
 refine wp_symQ hS hG hK (fun p2=>[.l 17 (.agg #[.int .i64 (E:Int),.int .i64 (F:Int)]) 0 0,.c (some 18) (cV (.int .i64 0)),.v 13 (.int .i64 0)]) (fun p2=>[(2,.int .i64 0),(3,.bool ng),(4,.int .u8 (md:Int)),(5,.pointer (some ⟨(p1 0).N,0,none⟩)),(6,.pointer (some ⟨(p1 1).N,0,none⟩)),(10,.int .u64 0),(11,.int .u8 0),(12,.int .i64 0),(13,.int .i64 0)]) (by kernel_rfl) (fun _ _=>by kernel_rfl) (fun _=>by kernel_rfl) (fun _=>by kernel_rfl) (fun p2=>?_) (fun p2 W2 T hF hK=>?_)
 ·refine ok_L (by kernel_rfl) (by kernel_rfl) (by kernel_rfl) ?_
  refine ok_c (fun W cx=>as_v (check_ok _ _ _ hfo)) (by kernel_rfl) ?_
  refine ok_v (by kernel_rfl) ?_
  exact ok_nil
 replace hS:=SymF.fb hS hF [0,1] [⟨(p1 0).N,#[.int .i64 (E:Int),.int .i64 (F:Int)],23,true⟩,⟨(p1 1).N,#[.bool s,.slice a n c,.slice b k l],35,true⟩] (by kernel_rfl) (by kernel_rfl)
 replace hG:=hF.gx
 clear hF
 have z2:=hS.fr.size
 refine wp_symQ hS hG hK (fun p3=>[.v 19 (.int .i64 0),.v 20 (.bool false)]) (fun p3=>[(2,.int .i64 0),(3,.bool ng),(4,.int .u8 (md:Int)),(5,.pointer (some ⟨(p1 0).N,0,none⟩)),(6,.pointer (some ⟨(p1 1).N,0,none⟩)),(10,.int .u64 0),(11,.int .u8 0),(12,.int .i64 0),(13,.int .i64 0),(20,.bool false)]) (by kernel_rfl) (fun _ _=>by kernel_rfl) (fun _=>by kernel_rfl) (fun _=>by kernel_rfl) (fun p3=>?_) (fun p3 W3 T hF hK=>?_)
 ·iterate 2 refine ok_v (by kernel_rfl) ?_
  exact ok_nil
 replace hS:=SymF.fb hS hF [0,1] [⟨(p1 0).N,#[.int .i64 (E:Int),.int .i64 (F:Int)],23,true⟩,⟨(p1 1).N,#[.bool s,.slice a n c,.slice b k l],35,true⟩] (by kernel_rfl) (by kernel_rfl)
 replace hG:=hF.gx
 clear hF
 have z3:=hS.fr.size
 refine wp_cond_false (hK.ev 20 (by kernel_rfl) _ (by kernel_rfl)) ?_
 refine wp_skip ?_
 refine then_n ?_
 refine wp_seq ?_
 refine wp_symQ hS hG hK (fun p4=>[.l 22 (.agg #[.bool s,.slice a n c,.slice b k l]) 1 0,.v 23 (.int .u8 (md:Int)),.c (some 24) (cV (.int .i64 0)),.v 14 (.int .i64 0)]) (fun p4=>[(2,.int .i64 0),(3,.bool ng),(4,.int .u8 (md:Int)),(5,.pointer (some ⟨(p1 0).N,0,none⟩)),(6,.pointer (some ⟨(p1 1).N,0,none⟩)),(10,.int .u64 0),(11,.int .u8 0),(12,.int .i64 0),(13,.int .i64 0),(14,.int .i64 0),(20,.bool false)]) (by kernel_rfl) (fun _ _=>by kernel_rfl) (fun _=>by kernel_rfl) (fun _=>by kernel_rfl) (fun p4=>?_) (fun p4 W4 T hF hK=>?_)
 ·refine ok_L (by kernel_rfl) (by kernel_rfl) (by kernel_rfl) ?_
  refine ok_v (by kernel_rfl) ?_
  refine ok_c (fun W cx=>as_v (tcheckF_ok s a n c b k l md hm _ (hide fun W9 hb9=>unhide HC W9 (Num.kept (cx.G.1) hb9) (Num.kept (cx.G.2.1) hb9)))) (by kernel_rfl) ?_
  refine ok_v (by kernel_rfl) ?_
  exact ok_nil
 replace hS:=SymF.fb hS hF [0,1] [⟨(p1 0).N,#[.int .i64 (E:Int),.int .i64 (F:Int)],23,true⟩,⟨(p1 1).N,#[.bool s,.slice a n c,.slice b k l],35,true⟩] (by kernel_rfl) (by kernel_rfl)
 replace hG:=hF.gx
 clear hF
 have z4:=hS.fr.size
 refine wp_symQ hS hG hK (fun p5=>[.v 25 (.int .i64 0),.v 26 (.bool false)]) (fun p5=>[(2,.int .i64 0),(3,.bool ng),(4,.int .u8 (md:Int)),(5,.pointer (some ⟨(p1 0).N,0,none⟩)),(6,.pointer (some ⟨(p1 1).N,0,none⟩)),(10,.int .u64 0),(11,.int .u8 0),(12,.int .i64 0),(13,.int .i64 0),(14,.int .i64 0),(20,.bool false),(26,.bool false)]) (by kernel_rfl) (fun _ _=>by kernel_rfl) (fun _=>by kernel_rfl) (fun _=>by kernel_rfl) (fun p5=>?_) (fun p5 W5 T hF hK=>?_)
 ·iterate 2 refine ok_v (by kernel_rfl) ?_
  exact ok_nil
 replace hS:=SymF.fb hS hF [0,1] [⟨(p1 0).N,#[.int .i64 (E:Int),.int .i64 (F:Int)],23,true⟩,⟨(p1 1).N,#[.bool s,.slice a n c,.slice b k l],35,true⟩] (by kernel_rfl) (by kernel_rfl)
 replace hG:=hF.gx
 clear hF
 have z5:=hS.fr.size
 refine wp_cond_false (hK.ev 26 (by kernel_rfl) _ (by kernel_rfl)) ?_
 refine wp_skip ?_
 refine then_n ?_
 refine wp_symQ hS hG hK (fun p6=>[.l 29 (.agg #[.bool s,.slice a n c,.slice b k l]) 1 0,.v 30 (.int .i64 0),.c (some 31) (cG W5.heap.size M fun x9=>.tuple #[.agg #[.bool s,x9,.int .i64 X],.int .i64 0]),.v 28 (.tuple #[.agg #[.bool s,.slice (p6 2).A (p6 2).N (p6 2).C,.int .i64 X],.int .i64 0]),.v 32 (.agg #[.bool s,.slice (p6 2).A (p6 2).N (p6 2).C,.int .i64 X]),.v 33 (.int .i64 0),.n 15 #[.bool false,.slice none 0 0,.int .i64 0] 30,.p 1006 0 [.bool s,.slice (p6 2).A (p6 2).N (p6 2).C,.int .i64 X],.v 16 (.int .i64 0)]) (fun p6=>[(3,.bool ng),(4,.int .u8 (md:Int)),(5,.pointer (some ⟨(p1 0).N,0,none⟩)),(10,.int .u64 0),(11,.int .u8 0),(12,.int .i64 0),(13,.int .i64 0),(14,.int .i64 0),(15,.pointer (some ⟨(p6 6).N,0,none⟩)),(16,.int .i64 0),(20,.bool false),(26,.bool false)]) (by kernel_rfl) (fun _ _=>by kernel_rfl) (fun _=>by kernel_rfl) (fun _=>by kernel_rfl) (fun p6=>?_) (fun p6 W6 T hF hK=>?_)
 ·refine ok_L (by kernel_rfl) (by kernel_rfl) (by kernel_rfl) ?_
  refine ok_v (by kernel_rfl) ?_
  refine ok_c (fun W cx=>as_g cx.hb (unhide HD _ (hT.kept cx.fr) (cx.G.1) (cx.G.2.1))) (by kernel_rfl) ?_
  iterate 3 refine ok_v (by kernel_rfl) ?_
  refine ok_n (fun _=>by kernel_rfl) ?_
  refine ok_P (by kernel_rfl) (by kernel_rfl) (by kernel_rfl) ?_
  refine ok_v (by kernel_rfl) ?_
  exact ok_nil
 replace hS:=SymF.fb hS hF [0,1006] [⟨(p1 0).N,#[.int .i64 (E:Int),.int .i64 (F:Int)],23,true⟩,⟨(p6 6).N,#[.bool s,.slice (p6 2).A (p6 2).N (p6 2).C,.int .i64 X],30,true⟩] (by kernel_rfl) (by kernel_rfl)
 replace hG:GsAt (gM W5.heap.size (p6 2).A (p6 2).N (p6 2).C M :: _) W6:=⟨hF.fx 2,hF.gx⟩
 clear hF
 have z6:=hS.fr.size
 refine wp_seq ?_
 refine wp_symQ hS hG hK (fun p7=>[.v 34 (.int .i64 0),.v 35 (.bool false)]) (fun p7=>[(3,.bool ng),(4,.int .u8 (md:Int)),(5,.pointer (some ⟨(p1 0).N,0,none⟩)),(10,.int .u64 0),(11,.int .u8 0),(12,.int .i64 0),(13,.int .i64 0),(14,.int .i64 0),(15,.pointer (some ⟨(p6 6).N,0,none⟩)),(16,.int .i64 0),(20,.bool false),(26,.bool false),(35,.bool false)]) (by kernel_rfl) (fun _ _=>by kernel_rfl) (fun _=>by kernel_rfl) (fun _=>by kernel_rfl) (fun p7=>?_) (fun p7 W7 T hF hK=>?_)
 ·iterate 2 refine ok_v (by kernel_rfl) ?_
  exact ok_nil
 replace hS:=SymF.fb hS hF [0,1] [⟨(p1 0).N,#[.int .i64 (E:Int),.int .i64 (F:Int)],23,true⟩,⟨(p6 6).N,#[.bool s,.slice (p6 2).A (p6 2).N (p6 2).C,.int .i64 X],30,true⟩] (by kernel_rfl) (by kernel_rfl)
 replace hG:=hF.gx
 clear hF
 have z7:=hS.fr.size
 refine wp_cond_false (hK.ev 35 (by kernel_rfl) _ (by kernel_rfl)) ?_
 refine wp_skip ?_
 refine then_n ?_
 refine wp_symQ hS hG hK (fun p8=>[.l 37 (.agg #[.int .i64 (E:Int),.int .i64 (F:Int)]) 0 0,.l 38 (.agg #[.bool s,.slice (p6 2).A (p6 2).N (p6 2).C,.int .i64 X]) 1 0,.v 39 (.bool ng),.v 40 (.int .u8 (md:Int)),.c (some 41) (cV (.tuple #[.int .u64 (bt:Int),.int .u8 (fl:Int),.int .i64 0])),.v 42 (.int .u64 (bt:Int)),.v 43 (.int .u8 (fl:Int)),.v 44 (.int .i64 0),.v 10 (.int .u64 (bt:Int)),.v 11 (.int .u8 (fl:Int)),.v 12 (.int .i64 0)]) (fun p8=>[(10,.int .u64 (bt:Int)),(11,.int .u8 (fl:Int)),(12,.int .i64 0),(13,.int .i64 0),(14,.int .i64 0),(16,.int .i64 0),(20,.bool false),(26,.bool false),(35,.bool false)]) (by kernel_rfl) (fun _ _=>by kernel_rfl) (fun _=>by kernel_rfl) (fun _=>by kernel_rfl) (fun p8=>?_) (fun p8 W8 T hF hK=>?_)
 ·iterate 2 refine ok_L (by kernel_rfl) (by kernel_rfl) (by kernel_rfl) ?_
  iterate 2 refine ok_v (by kernel_rfl) ?_
  refine ok_c (fun W cx=>as_v (unhide HR _ _ _ _ _ cx.G.1)) (by kernel_rfl) ?_
  iterate 6 refine ok_v (by kernel_rfl) ?_
  exact ok_nil
 replace hS:=SymF.fb hS hF [] [] (by kernel_rfl) (by kernel_rfl)
 replace hG:=hF.gx
 clear hF
 have z8:=hS.fr.size
 refine wp_ret ?_
 exact sym_end hS hK (.tuple #[.int .u64 (bt:Int),.int .u8 (fl:Int),.int .i64 0]) [] [] (by kernel_rfl) (by kernel_rfl) ⟨rfl,hS.fr⟩
theorem sratio_w (w:World) (E F md:Nat) (s ng:Bool) (a b:Option Addr) (n c k l x y bt fl:Nat) (h1:Num w a n x) (h2:Num w b k y) (HR:Hid (∀ W:World,Below w.heap.size w W→Num W a n x→Num W b k y→Calls Tryz.prog 11 #[.agg #[.int .i64 E,.int .i64 F],.agg #[.bool s,.slice a n c,.slice b k l],.int .i64 0,.bool ng,.int .u8 (md:Int)] W fun e W'=>e = .returned (.tuple #[.int .u64 (bt:Int),.int .u8 (fl:Int),.int .i64 0])∧Below W.heap.size W W')) :
  Calls Tryz.prog 9 #[.agg #[.int .i64 (E:Int),.int .i64 (F:Int)],.agg #[.bool s,.slice a n c,.slice b k l],.bool ng,.int .u8 (md:Int)] w fun en w'=>en = .returned (.tuple #[.int .u64 (bt:Int),.int .u8 (fl:Int),.int .i64 0])∧Below w.heap.size w w':=by
 refine calls_sym Tryz.func9 rfl (by kernel_rfl) fun T hK=>?_
 replace hK:Kn T _ [(0,.agg #[.int .i64 (E:Int),.int .i64 (F:Int)]),(1,.agg #[.bool s,.slice a n c,.slice b k l]),(2,.bool ng),(3,.int .u8 (md:Int))]:=hK
 have hS:=Fb.begin w
 have hG:GsAt [gN a n x,gN b k y] w:=⟨h1,h2,trivial⟩
 refine wp_symQ hS hG hK (fun p1=>[.n 4 #[.int .i64 (E:Int),.int .i64 (F:Int)] 23,.n 5 #[.bool s,.slice a n c,.slice b k l] 35,.v 8 (.int .u64 0),.v 9 (.int .u8 0),.v 10 (.int .i64 0)]) (fun p1=>[(2,.bool ng),(3,.int .u8 (md:Int)),(4,.pointer (some ⟨(p1 0).N,0,none⟩)),(5,.pointer (some ⟨(p1 1).N,0,none⟩)),(8,.int .u64 0),(9,.int .u8 0),(10,.int .i64 0)]) (by kernel_rfl) (fun _ _=>by kernel_rfl) (fun _=>by kernel_rfl) (fun _=>by kernel_rfl) (fun p1=>?_) (fun p1 W1 T hF hK=>?_)
 ·iterate 2 refine ok_n (fun _=>by kernel_rfl) ?_
  iterate 3 refine ok_v (by kernel_rfl) ?_
  exact ok_nil
 replace hS:=SymF.fb hS hF [1000,1001] [⟨(p1 0).N,#[.int .i64 (E:Int),.int .i64 (F:Int)],23,true⟩,⟨(p1 1).N,#[.bool s,.slice a n c,.slice b k l],35,true⟩] (by kernel_rfl) (by kernel_rfl)
 replace hG:=hF.gx
 clear hF
 have z1:=hS.fr.size
 refine wp_symQ hS hG hK (fun p2=>[.l 11 (.agg #[.int .i64 (E:Int),.int .i64 (F:Int)]) 0 0,.l 12 (.agg #[.bool s,.slice a n c,.slice b k l]) 1 0,.v 13 (.bool ng),.v 14 (.int .u8 (md:Int)),.c (some 15) (cV (.tuple #[.int .u64 (bt:Int),.int .u8 (fl:Int),.int .i64 0])),.v 16 (.int .u64 (bt:Int)),.v 17 (.int .u8 (fl:Int)),.v 18 (.int .i64 0),.v 8 (.int .u64 (bt:Int)),.v 9 (.int .u8 (fl:Int)),.v 10 (.int .i64 0)]) (fun p2=>[(8,.int .u64 (bt:Int)),(9,.int .u8 (fl:Int)),(10,.int .i64 0)]) (by kernel_rfl) (fun _ _=>by kernel_rfl) (fun _=>by kernel_rfl) (fun _=>by kernel_rfl) (fun p2=>?_) (fun p2 W2 T hF hK=>?_)
 ·iterate 2 refine ok_L (by kernel_rfl) (by kernel_rfl) (by kernel_rfl) ?_
  iterate 2 refine ok_v (by kernel_rfl) ?_
  refine ok_c (fun W cx=>as_v (unhide HR _ cx.fr (cx.G.1) (cx.G.2.1))) (by kernel_rfl) ?_
  iterate 6 refine ok_v (by kernel_rfl) ?_
  exact ok_nil
 replace hS:=SymF.fb hS hF [] [] (by kernel_rfl) (by kernel_rfl)
 replace hG:=hF.gx
 clear hF
 have z2:=hS.fr.size
 refine wp_ret ?_
 exact sym_end hS hK (.tuple #[.int .u64 (bt:Int),.int .u8 (fl:Int),.int .i64 0]) [] [] (by kernel_rfl) (by kernel_rfl) ⟨rfl,hS.fr⟩
theorem div_pos (a a':Option Addr) (n n' cap cap' m d:Nat) (w:World) (h:Num w a n m) (h':Num w a' n' d) (hd:0 < d) :
  Calls Tryz.prog 38 #[.agg #[.slice a n cap],.agg #[.slice a' n' cap']] w fun e w'=>(∃ aq nq cq ar nr cr,e = .returned (.tuple #[.agg #[.slice aq nq cq],.agg #[.slice ar nr cr],.int .i64 0])∧Mine w' w.heap.size aq nq cq (m / d)∧Mine w' w.heap.size ar nr cr (m % d))∧Below w.heap.size w w':=by
 refine (div_any a a' n n' cap cap' m d w h h').mono ?_
 rintro e w' ⟨h1,hb⟩
 rcases h1 with ⟨h0,_⟩|⟨_,h1⟩
 ·omega
 ·exact ⟨h1,hb⟩
theorem sub_pos (a a':Option Addr) (n n' cap cap' m m':Nat) (w:World) (h:Num w a n m) (h':Num w a' n' m') (hle:m'≤m) :
  Calls Tryz.prog 43 #[.agg #[.slice a n cap],.agg #[.slice a' n' cap']] w fun e w'=>(∃ a n cap,e = .returned (.tuple #[.agg #[.slice a n cap],.bool true,.int .i64 0])∧Mine w' w.heap.size a n cap (m - m'))∧Below w.heap.size w w':=by
 refine (sub_any a a' n n' cap cap' m m' w h h').mono ?_
 rintro e w' ⟨h1,hb⟩
 rcases h1 with ⟨h0,_⟩|⟨_,h1⟩
 ·omega
 ·exact ⟨h1,hb⟩
theorem whole_near (a:Option Addr) (n cap m:Nat) (a':Option Addr) (n' cap' d:Nat) (md:Nat) (hm:md≤4) (r q:Nat) (o:Bool) (hr:m % d = r) (hz:0 < r) (hq:m / d = q) (ho:decide (q / 2 ^ 0 % 2 = 1) = o) (hle:r≤d) (HF:Tel 46 #[.agg #[.bool false,.bool o,.int .i64 (cmpI r (d - r))],.int .u8 (md:Int)] (.bool false)) (w:World) (h:Num w a n m) (h':Num w a' n' d) (hd:0 < d) (HC:Hid (∀ W:World,Below w.heap.size w W→Calls Tryz.prog 24 #[.agg #[.bool false,.slice a n cap,.slice a' n' cap']] W fun e w'=>e = .returned (.int .i64 0)∧Below W.heap.size W w')) :
  Calls Tryz.prog 15 #[.agg #[.bool false,.slice a n cap,.slice a' n' cap'],.int .u8 (md:Int)] w fun e w'=>(∃ A N C,e = .returned (.tuple #[.bool false,.agg #[.slice A N C],.bool false,.int .i64 0])∧Mine w' w.heap.size A N C (q))∧Below w.heap.size w w':=by
 have H:=hide h
 have H':=hide h'
 have HD:=hide hd
 have HM:=hide hm
 clear h h' hd hm
 subst hr
 subst hq
 have HZ:=hide hz
 have HLE:=hide hle
 have HBt:Hid (∀ (W:World) (A:Option Addr) (N C:Nat),Num W A N (m / d)→Calls Tryz.prog 44 #[.agg #[.slice A N C],.int .i64 0] W fun e w'=>e = .returned (.tuple #[.bool o,.int .i64 0])∧Below W.heap.size W w'):=hide fun W A N C g=>by rw [← ho]; exact bit_any A N C _ 0 W g (by decide)
 clear hz hle ho
 go_enter Tryz.func15,Tryz.ntmps15
 go_wp2_with fail
 refine (tcheckF_ok false a n cap a' n' cap' md (unhide HM) _ (hide fun W hb=>unhide HC W (((Fs.two w _ _ _ _).kept hb).fr))).mono ?_
 rintro e w1 ⟨rfl,hb1⟩
 have hS:=(Fs.two w _ _ _ _).kept hb1
 obtain ⟨⟨ya,yb,yc,-⟩,⟨yd,-⟩,-⟩:=hS.cells
 have hltw1_0:w.heap.size < w1.heap.size:=hS.lt 0 rfl
 have hltw1_1:w.heap.size+1 < w1.heap.size:=hS.lt 1 rfl
 obtain ⟨WR,hWR⟩:∃ WR,w1.alloc (.cells #[.int .i64 0] 83) = WR:=⟨_,rfl⟩
 replace hS:=hS.alloc #[.int .i64 0] 83
 rw [hWR] at hS
 clear ya yb yc yd
 obtain ⟨⟨ye,-⟩,⟨yf,yg,yh,-⟩,⟨yi,-⟩,-⟩:=hS.cells
 have hsz1:w.heap.size≤WR.heap.size:=hS.size
 go_wp2_with fail
 refine (div_pos a a' n n' cap cap' m d _ ((unhide H).kept hS.fr) ((unhide H').kept hS.fr) (unhide HD)).mono ?_
 rintro e w2 ⟨⟨A1,N1,C1,A2,N2,C2,rfl,f1,f2⟩,hb2⟩
 replace hS:=hS.kept hb2
 clear ye yf yg yh yi
 obtain ⟨⟨yj,-⟩,⟨yk,yl,ym,-⟩,⟨yn,-⟩,-⟩:=hS.cells
 have G1:=hide (f1.mono (base':=w.heap.size) hsz1)
 have G2:=hide (f2.mono (base':=w.heap.size) hsz1)
 clear f1 f2 hsz1
 have hn2:0 < N2:=by have:=(unhide G2).num.zero; have:=unhide HZ; omega
 go_wp2_with fail
 refine (runNats_0 _ _ _ _ _ _ _ _ _ ⟨_,_,hS.bx ⟨w1.heap.size,#[.int .i64 0],83⟩ (by simp),rfl⟩).mono ?_
 rintro e w3 ⟨rfl,hb3⟩
 replace hS:=hS.kept hb3
 clear yj yk yl ym yn
 obtain ⟨⟨yo,-⟩,⟨yp,yq,yr,-⟩,⟨ys,-⟩,-⟩:=hS.cells
 replace G1:=hide ((unhide G1).kept hb3)
 replace G2:=hide ((unhide G2).kept hb3)
 have hltw3_0:w1.heap.size < w3.heap.size:=hS.lt 0 rfl
 have hltw3_1:w.heap.size < w3.heap.size:=hS.lt 1 rfl
 have hltw3_2:w.heap.size+1 < w3.heap.size:=hS.lt 2 rfl
 obtain ⟨WA,hWA⟩:∃ WA,w3.alloc (.cells #[.slice none 0 0] 28) = WA:=⟨_,rfl⟩
 replace hS:=hS.alloc #[.slice none 0 0] 28
 rw [hWA] at hS
 replace G1:=hide (hWA▸(unhide G1).alloc (.cells #[.slice none 0 0] 28))
 replace G2:=hide (hWA▸(unhide G2).alloc (.cells #[.slice none 0 0] 28))
 clear yo yp yq yr ys
 obtain ⟨⟨yt,-⟩,⟨yu,-⟩,⟨yv,yw,yx,-⟩,⟨yy,-⟩,-⟩:=hS.cells
 have fzWB:=hS.frozen (b:=w.heap.size+1) (cs:=#[.slice none 0 0]) (t:=28) (by simp) 0
 obtain ⟨WB,hWB⟩:∃ z9,WA.setCell ⟨w.heap.size+1,0,none⟩ (.slice A1 N1 C1) = z9:=⟨_,rfl⟩
 replace G1:=hide (hWB▸(unhide G1).put (t:=28) (hS.bx ⟨w.heap.size+1,#[.slice none 0 0],28⟩ (by simp)) (by decide) 0 (.slice A1 N1 C1))
 replace G2:=hide (hWB▸(unhide G2).put (t:=28) (hS.bx ⟨w.heap.size+1,#[.slice none 0 0],28⟩ (by simp)) (by decide) 0 (.slice A1 N1 C1))
 have hltWA_0:w3.heap.size < WA.heap.size:=hS.lt 0 rfl
 have hltWA_1:w1.heap.size < WA.heap.size:=hS.lt 1 rfl
 have hltWA_2:w.heap.size < WA.heap.size:=hS.lt 2 rfl
 have hltWA_3:w.heap.size+1 < WA.heap.size:=hS.lt 3 rfl
 replace hS:=hS.put (b:=w.heap.size+1) (cs:=#[.slice none 0 0]) (t:=28) (by simp) (by first|omega|(simp <;> omega)) 0 (.slice A1 N1 C1) [⟨w3.heap.size,#[.slice none 0 0],28⟩,⟨w1.heap.size,#[.int .i64 0],83⟩,⟨w.heap.size,#[.bool false,.slice a n cap,.slice a' n' cap'],35⟩,⟨w.heap.size+1,#[.slice A1 N1 C1],28⟩] (by simp <;> omega)
 rw [hWB] at hS
 obtain ⟨⟨yz,-⟩,⟨y0,-⟩,⟨y1,y2,y3,-⟩,⟨y4,-⟩,-⟩:=hS.cells
 have fzWC:=hS.frozen (b:=w3.heap.size) (cs:=#[.slice none 0 0]) (t:=28) (by simp) 0
 obtain ⟨WC,hWC⟩:∃ z9,WB.setCell ⟨w3.heap.size,0,none⟩ (.slice A2 N2 C2) = z9:=⟨_,rfl⟩
 replace G1:=hide (hWC▸(unhide G1).put (t:=28) (hS.bx ⟨w3.heap.size,#[.slice none 0 0],28⟩ (by simp)) (by decide) 0 (.slice A2 N2 C2))
 replace G2:=hide (hWC▸(unhide G2).put (t:=28) (hS.bx ⟨w3.heap.size,#[.slice none 0 0],28⟩ (by simp)) (by decide) 0 (.slice A2 N2 C2))
 have hltWB_0:w3.heap.size < WB.heap.size:=hS.lt 0 rfl
 have hltWB_1:w1.heap.size < WB.heap.size:=hS.lt 1 rfl
 have hltWB_2:w.heap.size < WB.heap.size:=hS.lt 2 rfl
 have hltWB_3:w.heap.size+1 < WB.heap.size:=hS.lt 3 rfl
 replace hS:=hS.put (b:=w3.heap.size) (cs:=#[.slice none 0 0]) (t:=28) (by simp) (by first|omega|(simp <;> omega)) 0 (.slice A2 N2 C2) [⟨w3.heap.size,#[.slice A2 N2 C2],28⟩,⟨w1.heap.size,#[.int .i64 0],83⟩,⟨w.heap.size,#[.bool false,.slice a n cap,.slice a' n' cap'],35⟩,⟨w.heap.size+1,#[.slice A1 N1 C1],28⟩] (by simp <;> omega)
 rw [hWC] at hS
 obtain ⟨⟨y5,-⟩,⟨y6,-⟩,⟨y7,y8,y9,-⟩,⟨yba,-⟩,-⟩:=hS.cells
 go_wp2_with fail
 clear yt yu yv yw yx yy fzWB yz y0 y1 y2 y3 y4 fzWC
 go_wp2_with fail
 refine (rnought_no A2 N2 C2 hn2 _).mono ?_
 rintro e w4 ⟨rfl,hb4⟩
 replace hS:=hS.kept hb4
 clear y5 y6 y7 y8 y9 yba
 obtain ⟨⟨ybb,-⟩,⟨ybc,-⟩,⟨ybd,ybe,ybf,-⟩,⟨ybg,-⟩,-⟩:=hS.cells
 replace G1:=hide ((unhide G1).kept hb4)
 replace G2:=hide ((unhide G2).kept hb4)
 clear hn2
 go_wp2_with fail
 have hS3s:w.heap.size≤w4.heap.size:=hS.size
 have hs9:∀ x9:Nat×(Pk→World→Prop),x9∈([(4,fun q W=>Mine W w.heap.size q.A q.N q.C (d - m % d)),(14,fun _ W=>Mine W w.heap.size A1 N1 C1 (m / d)),(15,fun _ W=>Mine W w.heap.size A2 N2 C2 (m % d))]:List (Nat×(Pk→World→Prop)))→∀ q9:Pk,St w.heap.size (x9.2 q9):=by
  intro x hx q
  simp only [List.mem_cons,List.not_mem_nil,or_false] at hx
  rcases hx with rfl|rfl|rfl
  ·exact st_mine _ _ _ _ _
  ·exact st_mine2 _ _ _ _
  ·exact st_mine2 _ _ _ _
 have h09:∀ x9:Nat×(Pk→World→Prop),x9∈([(4,fun q W=>Mine W w.heap.size q.A q.N q.C (d - m % d)),(14,fun _ W=>Mine W w.heap.size A1 N1 C1 (m / d)),(15,fun _ W=>Mine W w.heap.size A2 N2 C2 (m % d))]:List (Nat×(Pk→World→Prop)))→14≤x9.1→x9.2 ⟨none,0,0⟩ w4:=by
  intro x hx hn9
  simp only [List.mem_cons,List.not_mem_nil,or_false] at hx
  rcases hx with rfl|rfl|rfl
  ·exact absurd hn9 (by simp)
  ·exact unhide G1
  ·exact unhide G2
 refine wp_region_any (by kernel_rfl) ?_
 refine wpAny_pick (fun p9=>[some (40,.agg #[.slice A2 N2 C2]),some (41,.pointer (some ⟨w.heap.size,2,none⟩)),some (42,.agg #[.slice a' n' cap']),some (43,.agg #[.slice A2 N2 C2]),some (44,.tuple #[.agg #[.slice (p9 4).A (p9 4).N (p9 4).C],.bool true,.int .i64 0]),some (45,.agg #[.slice (p9 4).A (p9 4).N (p9 4).C]),some (46,.bool true),some (47,.int .i64 0),some (48,.agg #[.slice (p9 4).A (p9 4).N (p9 4).C]),some (49,.tuple #[.int .i64 (cmpI (m % d) (d - m % d)),.int .i64 0]),some (50,.int .i64 (cmpI (m % d) (d - m % d))),some (51,.int .i64 0),some (52,.int .i64 (cmpI (m % d) (d - m % d))),some (11,.int .i64 (cmpI (m % d) (d - m % d)))])
  (fun p9 l9 W9=>Pm w w.heap.size [(4,fun q W=>Mine W w.heap.size q.A q.N q.C (d - m % d)),(14,fun _ W=>Mine W w.heap.size A1 N1 C1 (m / d)),(15,fun _ W=>Mine W w.heap.size A2 N2 C2 (m % d))] p9 l9 W9 [⟨w3.heap.size,#[.slice A2 N2 C2],28⟩,⟨w1.heap.size,#[.int .i64 0],83⟩,⟨w.heap.size,#[.bool false,.slice a n cap,.slice a' n' cap'],35⟩,⟨w.heap.size+1,#[.slice A1 N1 C1],28⟩]) _ _ (fun _=>rfl) (by kernel_rfl) (fun _=>rfl) (fun _=>rfl) ?_ ?_ (fun _=>⟨none,0,0⟩) (Pm.start2 hS _ _ _ (by omega) hs9 h09)
 ·intro p9 l9 t9 W9 i9 hD hi9 hl9 hM
  obtain ⟨o9,ho9,hd9⟩:=(mem_ready.1 hi9).2
  have hin9:i9 < 14:=by
   by_cases h:i9 < 14
   ·exact h
   ·rw [Array.getElem?_eq_none (by rw [hD.len]; simp; omega)] at hl9; cases hl9
  have hcase:i9 = 0∨i9 = 1∨i9 = 2∨i9 = 3∨i9 = 4∨i9 = 5∨i9 = 6∨i9 = 7∨i9 = 8∨i9 = 9∨i9 = 10∨i9 = 11∨i9 = 12∨i9 = 13:=by omega
  clear hin9
  rcases hcase with rfl|rfl|rfl|rfl|rfl|rfl|rfl|rfl|rfl|rfl|rfl|rfl|rfl|rfl
  ·cases ho9
   have r10:=hD.old 10 _ rfl rfl
   have hM0:=hM.st
   have c9_0:=hM0.cellAt (b:=w3.heap.size) (cs:=#[.slice A2 N2 C2]) (t:=28) (by simp) 0 _ rfl
   clear hM0
   refine wpOp_step rfl fun K hK=>?_
   go_simp
   exact hK _ _ ⟨p9,fun _ _=>rfl,rfl,(hM.val rfl)⟩
  ·cases ho9
   have r2:=hD.old 2 _ rfl rfl
   refine wpOp_step rfl fun K hK=>?_
   go_simp
   exact hK _ _ ⟨p9,fun _ _=>rfl,rfl,(hM.val rfl)⟩
  ·cases ho9
   have r41:=hD.od hd9 1 41 _ rfl (by simp)
   have hM0:=hM.st
   have c9_0:=hM0.cellAt (b:=w.heap.size) (cs:=#[.bool false,.slice a n cap,.slice a' n' cap']) (t:=35) (by simp) 2 _ rfl
   clear hM0
   refine wpOp_step rfl fun K hK=>?_
   go_simp
   exact hK _ _ ⟨p9,fun _ _=>rfl,rfl,(hM.val rfl)⟩
  ·cases ho9
   have r10:=hD.old 10 _ rfl rfl
   have hM0:=hM.st
   have c9_0:=hM0.cellAt (b:=w3.heap.size) (cs:=#[.slice A2 N2 C2]) (t:=28) (by simp) 0 _ rfl
   clear hM0
   refine wpOp_step rfl fun K hK=>?_
   go_simp
   exact hK _ _ ⟨p9,fun _ _=>rfl,rfl,(hM.val rfl)⟩
  ·cases ho9
   have r42:=hD.od hd9 2 42 _ rfl (by simp)
   have r43:=hD.od hd9 3 43 _ rfl (by simp)
   have ga0:=hM.fx _ (List.mem_of_getElem? (i:=1) rfl) (Or.inr (by rw [hD.len]; simp))
   try simp only [] at ga0
   have ga1:=hM.fx _ (List.mem_of_getElem? (i:=2) rfl) (Or.inr (by rw [hD.len]; simp))
   try simp only [] at ga1
   have HD:=hide hD
   refine wpOp_step rfl fun K hK=>?_
   go_simp
   go_wp2_with fail
   refine (sub_pos a' A2 n' N2 cap' C2 d (m % d) _ ((unhide H').kept hM.st.fr) ga1.num (unhide HLE)).mono ?_
   rintro en w9 ⟨⟨a9,n9,c9,rfl,h9⟩,hb9⟩
   refine hK _ _ ⟨p9.set 4 ⟨a9,n9,c9⟩,?_,rfl,((hM.kept hs9 hb9).pick ⟨a9,n9,c9⟩ ?_)⟩
   ·intro k9 hk9
    clear hM hK
    match k9,hk9 with
    | 0,_=>rfl
    | 1,_=>rfl
    | 2,_=>rfl
    | 3,_=>rfl
    | 4,hk9=>exact absurd (hl9.symm.trans hk9) (by simp)
    | 5,hk9=>exact absurd (hl9.symm.trans (getD_true ((unhide HD).shut 5 _ (hk9) rfl ⟨4,.data⟩ (by simp) rfl))) (by simp)
    | 6,hk9=>exact absurd (hl9.symm.trans (getD_true ((unhide HD).shut 6 _ (hk9) rfl ⟨4,.data⟩ (by simp) rfl))) (by simp)
    | 7,hk9=>exact absurd (hl9.symm.trans (getD_true ((unhide HD).shut 7 _ (hk9) rfl ⟨4,.data⟩ (by simp) rfl))) (by simp)
    | 8,hk9=>exact absurd (hl9.symm.trans (getD_true ((unhide HD).shut 8 _ (hk9) rfl ⟨4,.chain⟩ (by simp) rfl))) (by simp)
    | 9,hk9=>exact absurd (hl9.symm.trans (getD_true ((unhide HD).shut 8 _ (getD_true ((unhide HD).shut 9 _ (hk9) rfl ⟨8,.data⟩ (by simp) rfl)) rfl ⟨4,.chain⟩ (by simp) rfl))) (by simp)
    | 10,hk9=>exact absurd (hl9.symm.trans (getD_true ((unhide HD).shut 8 _ (getD_true ((unhide HD).shut 9 _ (getD_true ((unhide HD).shut 10 _ (hk9) rfl ⟨9,.data⟩ (by simp) rfl)) rfl ⟨8,.data⟩ (by simp) rfl)) rfl ⟨4,.chain⟩ (by simp) rfl))) (by simp)
    | 11,hk9=>exact absurd (hl9.symm.trans (getD_true ((unhide HD).shut 8 _ (getD_true ((unhide HD).shut 9 _ (getD_true ((unhide HD).shut 11 _ (hk9) rfl ⟨9,.data⟩ (by simp) rfl)) rfl ⟨8,.data⟩ (by simp) rfl)) rfl ⟨4,.chain⟩ (by simp) rfl))) (by simp)
    | 12,hk9=>exact absurd (hl9.symm.trans (getD_true ((unhide HD).shut 8 _ (getD_true ((unhide HD).shut 9 _ (getD_true ((unhide HD).shut 12 _ (hk9) rfl ⟨9,.chain⟩ (by simp) rfl)) rfl ⟨8,.data⟩ (by simp) rfl)) rfl ⟨4,.chain⟩ (by simp) rfl))) (by simp)
    | 13,hk9=>exact absurd (hl9.symm.trans (getD_true ((unhide HD).shut 13 _ (hk9) rfl ⟨4,.phase⟩ (by simp) rfl))) (by simp)
    | k9+14,_=>rfl
   ·intro x hx he; simp only [List.mem_cons,List.not_mem_nil,or_false] at hx; rcases hx with rfl|rfl|rfl
    ·exact h9.mono hM.bw
    ·exact absurd he (by simp)
    ·exact absurd he (by simp)
  ·cases ho9
   have r44:=hD.od hd9 4 44 _ rfl (by simp)
   refine wpOp_step rfl fun K hK=>?_
   go_simp
   exact hK _ _ ⟨p9,fun _ _=>rfl,rfl,(hM.val rfl)⟩
  ·cases ho9
   have r44:=hD.od hd9 4 44 _ rfl (by simp)
   refine wpOp_step rfl fun K hK=>?_
   go_simp
   exact hK _ _ ⟨p9,fun _ _=>rfl,rfl,(hM.val rfl)⟩
  ·cases ho9
   have r44:=hD.od hd9 4 44 _ rfl (by simp)
   refine wpOp_step rfl fun K hK=>?_
   go_simp
   exact hK _ _ ⟨p9,fun _ _=>rfl,rfl,(hM.val rfl)⟩
  ·cases ho9
   have r9:=hD.old 9 _ rfl rfl
   have r45:=hD.od hd9 5 45 _ rfl (by simp)
   have r46:=hD.od hd9 6 46 _ rfl (by simp)
   have r47:=hD.od hd9 7 47 _ rfl (by simp)
   have ga0:=hM.fx _ (List.mem_of_getElem? (i:=1) rfl) (Or.inr (by rw [hD.len]; simp))
   try simp only [] at ga0
   have ga1:=hM.fx _ (List.mem_of_getElem? (i:=2) rfl) (Or.inr (by rw [hD.len]; simp))
   try simp only [] at ga1
   have g4:=hM.fx _ (List.mem_of_getElem? (i:=0) rfl) (Or.inl (getD_true (hd9 ⟨4,.chain⟩ (by simp) rfl)))
   simp only [] at g4
   refine wpOp_step rfl fun K hK=>?_
   go_simp
   go_wp2_with fail
   refine (runLess_0 _ _ _ _ _ _ _ ⟨_,_,hM.st.bx ⟨w1.heap.size,#[.int .i64 0],83⟩ (by simp),rfl⟩).mono ?_
   rintro en w9 ⟨rfl,hb9⟩
   exact hK _ _ ⟨p9,fun _ _=>rfl,rfl,((hM.kept hs9 hb9).val rfl)⟩
  ·cases ho9
   have r40:=hD.od hd9 0 40 _ rfl (by simp)
   have r48:=hD.od hd9 8 48 _ rfl (by simp)
   have ga0:=hM.fx _ (List.mem_of_getElem? (i:=1) rfl) (Or.inr (by rw [hD.len]; simp))
   try simp only [] at ga0
   have ga1:=hM.fx _ (List.mem_of_getElem? (i:=2) rfl) (Or.inr (by rw [hD.len]; simp))
   try simp only [] at ga1
   have g4:=hM.fx _ (List.mem_of_getElem? (i:=0) rfl) (Or.inl (getD_true (hD.shut 8 _ (getD_true (hd9 ⟨8,.data⟩ (by simp) rfl)) rfl ⟨4,.chain⟩ (by simp) rfl)))
   simp only [] at g4
   refine wpOp_step rfl fun K hK=>?_
   go_simp
   go_wp2_with fail
   refine (cmpN_any _ _ _ _ _ _ _ _ _ ga1.num g4.num).mono ?_
   rintro en w9 ⟨rfl,hb9⟩
   exact hK _ _ ⟨p9,fun _ _=>rfl,rfl,((hM.kept hs9 hb9).val rfl)⟩
  ·cases ho9
   have r49:=hD.od hd9 9 49 _ rfl (by simp)
   refine wpOp_step rfl fun K hK=>?_
   go_simp
   exact hK _ _ ⟨p9,fun _ _=>rfl,rfl,(hM.val rfl)⟩
  ·cases ho9
   have r49:=hD.od hd9 9 49 _ rfl (by simp)
   refine wpOp_step rfl fun K hK=>?_
   go_simp
   exact hK _ _ ⟨p9,fun _ _=>rfl,rfl,(hM.val rfl)⟩
  ·cases ho9
   have r9:=hD.old 9 _ rfl rfl
   have r50:=hD.od hd9 10 50 _ rfl (by simp)
   have r51:=hD.od hd9 11 51 _ rfl (by simp)
   have ga0:=hM.fx _ (List.mem_of_getElem? (i:=1) rfl) (Or.inr (by rw [hD.len]; simp))
   try simp only [] at ga0
   have ga1:=hM.fx _ (List.mem_of_getElem? (i:=2) rfl) (Or.inr (by rw [hD.len]; simp))
   try simp only [] at ga1
   have g4:=hM.fx _ (List.mem_of_getElem? (i:=0) rfl) (Or.inl (getD_true (hD.shut 8 _ (getD_true (hD.shut 9 _ (getD_true (hD.shut 10 _ (getD_true (hd9 ⟨10,.data⟩ (by simp) rfl)) rfl ⟨9,.data⟩ (by simp) rfl)) rfl ⟨8,.data⟩ (by simp) rfl)) rfl ⟨4,.chain⟩ (by simp) rfl)))
   simp only [] at g4
   refine wpOp_step rfl fun K hK=>?_
   go_simp
   go_wp2_with fail
   refine (runInt_0 _ _ _ _ ⟨_,_,hM.st.bx ⟨w1.heap.size,#[.int .i64 0],83⟩ (by simp),rfl⟩).mono ?_
   rintro en w9 ⟨rfl,hb9⟩
   exact hK _ _ ⟨p9,fun _ _=>rfl,rfl,((hM.kept hs9 hb9).val rfl)⟩
  ·cases ho9
   have r52:=hD.od hd9 12 52 _ rfl (by simp)
   refine wpOp_step rfl fun K hK=>?_
   go_simp
   exact hK _ _ ⟨p9,fun _ _=>rfl,rfl,(hM.val rfl)⟩
 ·intro p9 l9 W9 hn9 hl9 hM
  have fr8_4:=hM.fx _ (List.mem_of_getElem? (i:=0) rfl) (Or.inl (hl9 4 (by decide)))
  have kr8_0:=hM.fx _ (List.mem_of_getElem? (i:=1) rfl) (Or.inr (by rw [hn9]; simp))
  try simp only [] at kr8_0
  have kr8_1:=hM.fx _ (List.mem_of_getElem? (i:=2) rfl) (Or.inr (by rw [hn9]; simp))
  try simp only [] at kr8_1
  replace hM:=hM.st
  clear hl9 hs9 h09 hn9
  generalize p9 4 = q4 at *
  obtain ⟨Ar8_4,Nr8_4,Cr8_4⟩:=q4
  simp only [] at fr8_4
  clear hS ybb ybc ybd ybe ybf ybg
  have hS:=hM
  clear hM
  simp only [Puts.lay,List.setIfInBounds_toArray,List.set_cons_zero,List.set_cons_succ]
  obtain ⟨⟨ybh,-⟩,⟨ybi,-⟩,⟨ybj,ybk,ybl,-⟩,⟨ybm,-⟩,-⟩:=hS.cells
  have K1:=hide kr8_0
  clear kr8_0 kr8_1 fr8_4 G1 G2
  go_wp2_with fail
  refine (unhide HBt _ _ _ _ (unhide K1).num).mono ?_
  rintro e w5 ⟨rfl,hb5⟩
  replace hS:=hS.kept hb5
  clear ybh ybi ybj ybk ybl ybm
  obtain ⟨⟨ybn,-⟩,⟨ybo,-⟩,⟨ybp,ybq,ybr,-⟩,⟨ybs,-⟩,-⟩:=hS.cells
  replace K1:=hide ((unhide K1).kept hb5)
  go_wp2_with fail
  refine (keep_0 _ _ _ ⟨_,_,hS.bx ⟨w1.heap.size,#[.int .i64 0],83⟩ (by simp),rfl⟩).mono ?_
  rintro e w6 ⟨rfl,hb6⟩
  replace hS:=hS.kept hb6
  clear ybn ybo ybp ybq ybr ybs
  obtain ⟨⟨ybt,-⟩,⟨ybu,-⟩,⟨ybv,ybw,ybx,-⟩,⟨yby,-⟩,-⟩:=hS.cells
  replace K1:=hide ((unhide K1).kept hb6)
  have hltw6_0:w3.heap.size < w6.heap.size:=hS.lt 0 rfl
  have hltw6_1:w1.heap.size < w6.heap.size:=hS.lt 1 rfl
  have hltw6_2:w.heap.size < w6.heap.size:=hS.lt 2 rfl
  have hltw6_3:w.heap.size+1 < w6.heap.size:=hS.lt 3 rfl
  obtain ⟨WT,hWT⟩:∃ WT,w6.alloc (.cells #[.bool false,.bool o,.int .i64 (cmpI (m % d) (d - m % d))] 98) = WT:=⟨_,rfl⟩
  replace hS:=hS.alloc #[.bool false,.bool o,.int .i64 (cmpI (m % d) (d - m % d))] 98
  rw [hWT] at hS
  replace K1:=hide (hWT▸(unhide K1).alloc (.cells #[.bool false,.bool o,.int .i64 (cmpI (m % d) (d - m % d))] 98))
  obtain ⟨⟨ybz,yb0,yb1,-⟩,⟨yb2,-⟩,⟨yb3,-⟩,⟨yb4,yb5,yb6,-⟩,⟨yb7,-⟩,-⟩:=hS.cells
  go_wp2_with fail
  refine (HF _).mono ?_
  rintro e w7 ⟨rfl,hb7⟩
  replace hS:=hS.kept hb7
  clear ybz yb0 yb1 yb2 yb3 yb4 yb5 yb6 yb7 ybt ybu ybv ybw ybx yby
  obtain ⟨⟨yb8,yb9,yca,-⟩,⟨ycb,-⟩,⟨ycc,-⟩,⟨ycd,yce,ycf,-⟩,⟨ycg,-⟩,-⟩:=hS.cells
  replace K1:=hide ((unhide K1).kept hb7)
  have fz0:=hS.frozen (b:=w.heap.size+1) (cs:=#[.slice A1 N1 C1]) (t:=28) (by simp) 0
  go_wp2
  go_region
  go_wp2
  exact bodyPost_ret (v:=.tuple #[.bool false,.agg #[.slice A1 N1 C1],.bool false,.int .i64 0]) (by simp [results,Tryz.results15,go_sem,ycg]) rfl ⟨⟨_,_,_,rfl,(unhide K1).put (t:=28) (hS.bx ⟨w.heap.size+1,#[.slice A1 N1 C1],28⟩ (by simp)) (by decide) 0 _⟩,(hS.fr.setCell (show w.heap.size≤w.heap.size+1 by omega) _).drew⟩
theorem no_over {m K:Nat} (h:m < 2 ^ K) (hK:K≤524288):¬ Over m:=not_over h hK
theorem ans_ok {w:World} {base:Nat} {e:Ending} {m:Nat} (h:Ans w base e m) (hn:¬ Over m):∃ a n cap,e = .returned (.tuple #[.agg #[.slice a n cap],.int .i64 0])∧Mine w base a n cap m:=by
 rcases h with h|⟨_,h⟩
 ·exact h
 ·exact absurd h hn
theorem hbits (m:Nat):HBits m (blen m):=fun W A N C h=>(bits_any A N C m W h).mono fun e W' ⟨⟨k,h1,h2,_⟩,hb⟩=>⟨by rw [h1,h2.uniq (bl_blen m)],hb⟩
theorem hup {m k:Nat} (hk:k < 9223372036854775808) (ho:¬ Over (m * 2 ^ k)):HUp m k (m * 2 ^ k):=fun W A N C h=>(up_any A N C m k W h hk).mono fun _ _ ⟨h1,hb⟩=>⟨ans_ok h1 ho,hb⟩
theorem hmul {x y:Nat} (ho:¬ Over (x * y)):HTwo 100 x y (x * y):=fun W a n c a' n' c' h h'=>(mul_any a a' n n' c c' x y W h h').mono fun _ _ ⟨h1,hb⟩=>⟨ans_ok h1 ho,hb⟩
theorem hadd {x y:Nat} (ho:¬ Over (x+y)):HTwo 48 x y (x+y):=fun W a n c a' n' c' h h'=>(add_any a a' n n' c c' x y W h h').mono fun _ _ ⟨h1,hb⟩=>⟨ans_ok h1 ho,hb⟩
theorem hdiv {x d:Nat} (hd:0 < d):HDiv x d (x / d) (x % d):=fun W a n c a' n' c' h h'=>div_pos a a' n n' c c' x d W h h' hd
theorem hpow0:HPow0:=fun W=>by
 have:=pow_any 5 0 W (by omega) (by omega)
 exact this.mono fun _ _ ⟨h1,hb⟩=>⟨ans_ok h1 (no_over (K:=1) (by decide) (by omega)),hb⟩
def sLift (m d:Nat):Nat:=blen d - blen m
def sOne (m d:Nat):Nat:=m * 2 ^ sLift m d
def sMore (m d:Nat):Nat:=65+blen d - blen (sOne m d)
def sAll (m d:Nat):Nat:=sOne m d * 2 ^ sMore m d
def sAns (m d:Nat):Nat:=if sAll m d % d = 0 then 2 * (sAll m d / d) else 2 * (sAll m d / d)+1
def sExp (m d:Nat):Int:=-(sLift m d:Int) - (sMore m d:Int) - 1
theorem blen_lt {m K:Nat} (h:blen m≤K):m < 2 ^ K:=Nat.lt_of_lt_of_le (bl_blen m).1 (Nat.pow_le_pow_right (by omega) h)
theorem blen_one:blen 1 = 1:=by decide
theorem parts_div {t d f:Nat} (hd:0 < d):t / d * f+t % d * f / d = t * f / d∧t % d * f % d = t * f % d:=by
 have h:=Nat.div_add_mod t d
 have h1:t * f = t % d * f+d * (t / d * f):=by
  conv=>lhs; rw [← h]
  rw [Nat.add_mul,Nat.mul_assoc]; omega
 rw [h1]
 exact ⟨by rw [Nat.add_mul_div_left _ _ hd]; omega,by rw [Nat.add_mul_mod_self_left]⟩
theorem sfirst_any (W:World) (p:Nat) (a1 a2 a3 a4:Option Addr) (n1 n2 n3 n4 c1 c2 c3 c4 m d:Nat) (hk:Rn W p 0) (h1:Num W a1 n1 m) (h2:Num W a2 n2 1) (h3:Num W a3 n3 d) (h4:Num W a4 n4 1) (hd:0 < d) (bm:blen m≤100000) (bd:blen d≤100000) (hr:blen d≤blen m+4096) :
  Calls Tryz.prog 81 #[.agg #[.slice a1 n1 c1,.slice a2 n2 c2,.slice a3 n3 c3,.slice a4 n4 c4,.int .i64 0],.pointer (some ⟨p,0,none⟩)] W fun en W'=>(∃ A N C,en = .returned (.tuple #[.agg #[.slice A N C],.int .i64 (sExp m d)])∧Mine W' W.heap.size A N C (sAns m d))∧Below W.heap.size W W':=by
 obtain ⟨lift,hlift⟩:∃ lift,sLift m d = lift:=⟨_,rfl⟩
 obtain ⟨t1,ht1⟩:∃ t1,sOne m d = t1:=⟨_,rfl⟩
 obtain ⟨more,hmore⟩:∃ more,sMore m d = more:=⟨_,rfl⟩
 have el:lift≤4096:=by rw [← hlift]; unfold sLift; omega
 have em:more≤100065:=by rw [← hmore]; unfold sMore; omega
 obtain ⟨K0,hK0⟩:∃ K,K = 100000:=⟨_,rfl⟩
 obtain ⟨K4,hK4⟩:∃ K,K = 4096:=⟨_,rfl⟩
 obtain ⟨K1,hK1⟩:∃ K,K = 104096:=⟨_,rfl⟩
 obtain ⟨K2,hK2⟩:∃ K,K = 100065:=⟨_,rfl⟩
 obtain ⟨K3,hK3⟩:∃ K,K = 204161:=⟨_,rfl⟩
 have b1:t1 < 2 ^ K1:=by
  rw [← ht1]; unfold sOne
  rw [hlift,show K1 = K0+K4 from by omega,Nat.pow_add]
  exact Nat.mul_lt_mul_of_lt_of_le (blen_lt (by omega)) (Nat.pow_le_pow_right (by omega) (by omega)) (Nat.pow_pos (by omega))
 have b2:2 ^ more≤2 ^ K2:=Nat.pow_le_pow_right (by omega) (by omega)
 have b3:t1 * 2 ^ more < 2 ^ K3:=by
  rw [show K3 = K1+K2 from by omega,Nat.pow_add]
  exact Nat.mul_lt_mul_of_lt_of_le b1 b2 (Nat.pow_pos (by omega))
 have hall:sAll m d = t1 * 2 ^ more:=by unfold sAll; rw [ht1,hmore]
 obtain ⟨e1,e2⟩:=parts_div (t:=t1) (f:=2 ^ more) hd
 have hq:t1 * 2 ^ more / d≤t1 * 2 ^ more:=Nat.div_le_self _ _
 have l1:t1 / d * 2 ^ more≤t1 * 2 ^ more / d:=by rw [← e1]; exact Nat.le_add_right _ _
 have l2:t1 % d * 2 ^ more≤t1 * 2 ^ more:=Nat.mul_le_mul_right _ (Nat.mod_le _ _)
 have i5:blen t1≤104096:=by have:=(bl_blen t1).le_of b1; omega
 have p0:2 ^ K3 * 2 = 2 ^ (K3+1):=(Nat.pow_succ ..).symm
 have lt9:∀ {v:Nat},v < 2 ^ K3 * 2→¬ Over v:=fun {v} h=>no_over (K:=K3+1) (by rw [← p0]; exact h) (by omega)
 obtain ⟨T,hT⟩:∃ T,2 ^ K3 = T:=⟨_,rfl⟩
 rw [hT] at b3 lt9
 have hT1:1 < T:=by rw [← hT]; exact Nat.one_lt_two_pow (by omega)
 clear p0 hT
 have key:=sfirst_is W p a1 a2 a3 a4 n1 n2 n3 n4 c1 c2 c3 c4 m 1 d 1 (blen m) 1 (blen d) 1 (blen t1) lift more t1 (2 ^ more) (t1 / d) (t1 % d) (t1 % d * 2 ^ more / d) (t1 / d * 2 ^ more) (t1 * 2 ^ more / d) (t1 * 2 ^ more / d) 0 (t1 * 2 ^ more / d * 2) (t1 * 2 ^ more / d * 2+1) 0 ((blen t1:Int) - (blen d:Int)) (!decide (t1 % d * 2 ^ more % d = 0)) (sAns m d) hk h1 h2 h3 h4 (by omega) (by omega) (by omega) (by omega) (by omega)
  (by rw [← hlift]; unfold sLift; omega) (by omega) (by rw [← hmore]; unfold sMore; rw [ht1]; omega) (by omega) (by omega) (by omega) (by omega)
  (hide (by
   rw [e2]
   unfold sAns
   rw [hall]
   by_cases hz:t1 * 2 ^ more % d = 0
   ·right; right
    rw [if_pos hz]
    exact ⟨by simp [hz],rfl,by omega⟩
   ·left
    rw [if_neg hz]
    exact ⟨by simp [hz],by omega⟩))
  (hide (hbits m)) (hide (by have:=hbits 1; rw [blen_one] at this; exact this)) (hide (hbits d)) (hide (by have:=hbits 1; rw [blen_one] at this; exact this)) (hide (hbits t1))
  (hide (by have:=hup (m:=m) (k:=lift) (by omega) (by rw [← hlift]; exact no_over (K:=K1) (by have:=b1; rw [← ht1] at this; exact this) (by omega)); rw [show m * 2 ^ lift = t1 from by rw [← ht1,← hlift]; rfl] at this; exact this))
  (hide (by have:=hup (m:=1) (k:=more) (by omega) (by rw [Nat.one_mul]; exact no_over (K:=K2+1) (Nat.lt_of_le_of_lt b2 (Nat.pow_lt_pow_right (by omega) (by omega))) (by omega)); rw [Nat.one_mul] at this; exact this))
  (hide (hdiv hd))
  (hide fun W a n c b k l d9 m9 e9 q1 q2 q3 q4=>sshare_is W p a b d9 n c k l m9 e9 (t1 % d) (2 ^ more) d (t1 % d * 2 ^ more) _ _ q1 q2 q3 q4 (hide (hmul (lt9 (by omega)))) (hide (hdiv hd)))
  (hide (hmul (lt9 (by omega)))) (hide (by have:=hadd (x:=t1 / d * 2 ^ more) (y:=t1 % d * 2 ^ more / d) (lt9 (by omega)); rw [e1] at this; exact this))
  (hide (by have:=hdiv (x:=t1 * 2 ^ more / d) (d:=1) (by omega); rw [Nat.div_one,Nat.mod_one] at this; exact this))
  (hide (by have:=hup (m:=t1 * 2 ^ more / d) (k:=1) (by omega) (lt9 (by rw [Nat.pow_one]; omega)); rw [Nat.pow_one] at this; exact this))
  (hide (hadd (lt9 (by omega))))
 have ee:(0:Int) - (lift:Int) - (more:Int) - 1 = sExp m d:=by unfold sExp; rw [hlift,hmore]; omega
 rw [ee] at key
 exact key
theorem sratio_is {E F S I B md:Nat} (h:Fm E F S I) (hB:B = 2 ^ (E - 1) - 1) (hm:md≤4) (ng s:Bool) (a b:Option Addr) (n c k l m d:Nat) (w:World) (hT:Tb w) (h1:Num w a n m) (h2:Num w b k d) (h0:m≠0) (hd:0 < d) (bm:blen m≤100000) (bd:blen d≤100000) (hr1:blen d≤blen m+4096) (hr2:blen m≤blen d+4096)
  (HC:Hid (∀ W:World,Num W a n m→Num W b k d→Calls Tryz.prog 24 #[.agg #[.bool s,.slice a n c,.slice b k l]] W fun e W'=>e = .returned (.int .i64 0)∧Below W.heap.size W W')) (z M K:Nat) (X:Int) (hz:Tz (sAns m d) z) (hz2:z≤300000) (hM:sAns m d / 2 ^ z = M) (hX:sExp m d+(z:Int) = X) (hK:Bl M K) :
  Calls Tryz.prog 9 #[.agg #[.int .i64 E,.int .i64 F],.agg #[.bool s,.slice a n c,.slice b k l],.bool ng,.int .u8 (md:Int)] w fun e w'=>e = .returned (.tuple #[.int .u64 (bitsR S I md s (rowR B F md s M K X):Int),.int .u8 (flagR B F I md s M K X:Int),.int .i64 0])∧Below w.heap.size w w':=by
 obtain ⟨q,hq⟩:=hz
 have hMq:M = 2 * q+1:=by rw [← hM,hq,Nat.mul_div_cancel_left _ (Nat.pow_pos (by omega))]
 have hX2:-204200≤sExp m d∧sExp m d≤0:=by unfold sExp sLift sMore; omega
 refine sratio_w w E F md s ng a b n c k l m d _ _ h1 h2 (hide fun W hb q1 q2=>?_)
 refine sscaled_is W E F md s ng a b n c k l m d X M _ _ h.fo hm (hT.kept hb) q1 q2 HC (hide fun W t9 r1 r2=>?_) (hide fun W B9 A N C g=>?_)
 ·refine sstand_is W s a b n c k l m d (blen m) (blen d) ((blen m:Int) - (blen d:Int)) (sExp m d) X (sAns m d) M t9 r1 r2 h0 (by omega) (by omega) rfl (by omega) (by omega) (hide (hbits m)) (hide (hbits d)) (hide hpow0) (hide fun W p A N C A' N' C' x1 x2 x3 x4 x5=>sfirst_any W p a A b A' n N k N' c C l C' m d x1 x2 x3 x4 x5 hd bm bd hr1) (hide fun W B9 A N C t8 g=>?_)
  obtain ⟨g1,g2⟩:=mine_caps g
  have:=make_ok s A N C (sAns m d) z (sExp m d) W g.num (by rw [hq]; exact Nat.mul_pos (Nat.pow_pos (by omega)) (by omega)) t8 ⟨q,hq⟩ (by omega) g1 g2 (by omega)
  rw [hM,hX] at this
  exact this
 ·exact rounded_any h hB hm ng s A N C M K X W B9 g ⟨by omega,by omega,by omega⟩ hK
def hlf (r w:Nat):Int:=if 2 * r < w then -1 else if 2 * r = w then 0 else 1
def rnd (md:Nat) (s:Bool) (p w:Nat):Nat:=p / w+(if p % w = 0 then 0 else if fth md s (decide (p / w % 2 = 1)) (hlf (p % w) w) then 1 else 0)
theorem fth_mono {md:Nat} {s o:Bool} {h h':Int} (hle:h≤h') (hf:fth md s o h = true):fth md s o h' = true:=by
 match md with
 | 0=>
  simp only [fth,Bool.or_eq_true,Bool.and_eq_true,decide_eq_true_eq] at hf ⊢
  rcases hf with hf|⟨hf,ho⟩
  ·left; omega
  ·by_cases h0:h' = 0
   ·exact Or.inr ⟨h0,ho⟩
   ·left; omega
 | 1=>simp only [fth,decide_eq_true_eq] at hf ⊢; omega
 | 2=>simp [fth] at hf
 | 3=>simpa [fth] using hf
 | n+4=>simpa [fth] using hf
theorem hlf_mono {r w r' w':Nat} (hw:0 < w) (hw':0 < w') (h:r * w'≤r' * w):hlf r w≤hlf r' w':=by
 have k1:2 * r' < w'→2 * r < w:=fun h1=>by
  refine Nat.lt_of_not_le fun h2=>?_
  have a1:=Nat.mul_le_mul_right w' h2
  have a2:=Nat.mul_lt_mul_of_pos_right h1 hw
  have a3:2 * r * w' = 2 * (r * w'):=Nat.mul_assoc ..
  have a4:2 * r' * w = 2 * (r' * w):=Nat.mul_assoc ..
  have a5:=Nat.mul_comm w w'
  omega
 have k2:2 * r' = w'→2 * r≤w:=fun h1=>by
  refine Nat.le_of_not_lt fun h2=>?_
  have a1:=Nat.mul_lt_mul_of_pos_right h2 hw'
  have a3:2 * r * w' = 2 * (r * w'):=Nat.mul_assoc ..
  have a4:2 * r' * w = 2 * (r' * w):=Nat.mul_assoc ..
  have a5:=Nat.mul_comm w w'
  rw [h1] at a4
  omega
 unfold hlf
 split <;> split <;> (try split) <;> (try split) <;> omega
theorem rnd_mono {md:Nat} {s:Bool} {p w p' w':Nat} (hw:0 < w) (hw':0 < w') (h:p * w'≤p' * w):rnd md s p w≤rnd md s p' w':=by
 have hq:p / w≤p' / w':=by
  rw [Nat.le_div_iff_mul_le hw']
  have h1:p / w * w≤p:=Nat.div_mul_le_self p w
  have h2:=Nat.mul_le_mul_right w' h1
  refine Nat.le_of_mul_le_mul_right (c:=w) ?_ hw
  have a1:p / w * w' * w = p / w * w * w':=Nat.mul_right_comm ..
  omega
 have i1:rnd md s p w≤p / w+1:=by unfold rnd; split <;> (try split) <;> omega
 have i2:p' / w'≤rnd md s p' w':=by unfold rnd; omega
 rcases Nat.lt_or_ge (p / w) (p' / w') with h1|h1
 ·omega
 ·have e:p / w = p' / w':=by omega
  have hr:p % w * w'≤p' % w' * w:=by
   have d1:=Nat.div_add_mod p w
   have d2:=Nat.div_add_mod p' w'
   rw [← d1,← d2,Nat.add_mul,Nat.add_mul,← e] at h
   have a1:w * (p / w) * w' = w' * (p / w) * w:=by rw [Nat.mul_comm w (p / w),Nat.mul_comm w' (p / w),Nat.mul_right_comm]
   omega
  unfold rnd
  rw [← e]
  by_cases h0:p % w = 0
  ·rw [if_pos h0]; omega
  ·rw [if_neg h0]
   have h0':p' % w'≠0:=fun hc=>by
    rw [hc,Nat.zero_mul] at hr
    have:=Nat.mul_pos (Nat.pos_of_ne_zero h0) hw'
    omega
   rw [if_neg h0']
   have hm:=hlf_mono hw hw' hr
   by_cases hf:fth md s (decide (p / w % 2 = 1)) (hlf (p % w) w) = true
   ·rw [if_pos hf,if_pos (fth_mono hm hf)]; exact Nat.le_refl _
   ·rw [if_neg hf]; omega
theorem ahf_hlf {M dr:Nat} (ho:M % 2 = 1) (h1:1≤dr):ahf M dr = hlf (M % 2 ^ dr) (2 ^ dr):=by
 obtain ⟨k,rfl⟩:∃ k,dr = k+1:=⟨dr - 1,by omega⟩
 have hp:2 ^ (k+1) = 2 * 2 ^ k:=by rw [Nat.pow_succ,Nat.mul_comm]
 have hpk:=Nat.pow_pos (n:=k) (show 0 < 2 by omega)
 have hm:M % 2 ^ (k+1) = M % 2 ^ k+2 ^ k * (M / 2 ^ k % 2):=by rw [Nat.pow_succ,Nat.mod_mul]
 have hl:=Nat.mod_lt M hpk
 unfold ahf hlf
 rw [show k+1 - 1 = k from by omega,hm,hp]
 by_cases hb:M / 2 ^ k % 2 = 1
 ·rw [if_pos hb,hb,Nat.mul_one]
  by_cases hk:k = 0
  ·subst hk
   simp [Nat.mod_one]
  ·have hodd:M % 2 ^ k % 2 = 1:=by
    rw [Nat.mod_mod_of_dvd _ (Nat.dvd_of_mod_eq_zero (by rw [show k = (k - 1)+1 from by omega,Nat.pow_succ]; exact Nat.mul_mod_left ..))]; exact ho
   rw [if_neg (by omega),if_neg (by omega),if_neg (by omega)]
 ·have h0:M / 2 ^ k % 2 = 0:=by omega
  rw [if_neg hb,h0,Nat.mul_zero,if_pos (by omega)]
theorem hlf_scale {r w c:Nat} (hc:0 < c):hlf (c * r) (c * w) = hlf r w:=by
 have a1:2 * (c * r) = c * (2 * r):=Nat.mul_left_comm ..
 unfold hlf
 rw [a1]
 have e1:(c * (2 * r) < c * w) = (2 * r < w):=propext (Nat.mul_lt_mul_left hc)
 have e2:(c * (2 * r) = c * w) = (2 * r = w):=propext (Nat.mul_right_inj (by omega))
 simp only [e1,e2]
theorem cut_std {md:Nat} {s:Bool} {n d D A z M:Nat} {X t:Int} (hd:0 < d) (hA:A = if n % d = 0 then 2 * (n / d) else 2 * (n / d)+1) (hz:A = M * 2 ^ z) (ho:M % 2 = 1) (hD:2≤D) (hXt:(D:Int) = t - X+(z:Int)):cutR md s M X t = rnd md s n (d * 2 ^ (D - 1)):=by
 have p2:∀ k,0 < 2 ^ k:=fun k=>Nat.pow_pos (by omega)
 obtain ⟨e,rfl⟩:∃ e,D = e+2:=⟨D - 2,by omega⟩
 rw [show e+2 - 1 = e+1 from by omega]
 have hdm:=Nat.div_add_mod n d
 have hml:=Nat.mod_lt n hd
 obtain ⟨Q,hQ⟩:∃ Q,n / d = Q:=⟨_,rfl⟩
 obtain ⟨ρ,hρ⟩:∃ ρ,n % d = ρ:=⟨_,rfl⟩
 rw [hQ,hρ] at hdm hA
 rw [hρ] at hml
 have hpe:2 ^ (e+2) = 2 * 2 ^ (e+1):=by rw [Nat.pow_succ,Nat.mul_comm]
 have hpe1:2 ^ (e+1) = 2 * 2 ^ e:=by rw [Nat.pow_succ,Nat.mul_comm]
 have hdiv:n / (d * 2 ^ (e+1)) = Q / 2 ^ (e+1):=by rw [← Nat.div_div_eq_div_mul,hQ]
 obtain ⟨c,hc⟩:∃ c,Q / 2 ^ (e+1) = c:=⟨_,rfl⟩
 obtain ⟨q',hq'⟩:∃ q',Q % 2 ^ (e+1) = q':=⟨_,rfl⟩
 have hQd:=Nat.div_add_mod Q (2 ^ (e+1))
 have hql:=Nat.mod_lt Q (p2 (e+1))
 rw [hc,hq'] at hQd
 rw [hq'] at hql
 have hrem:n % (d * 2 ^ (e+1)) = d * q'+ρ:=by
  rw [Nat.mod_mul,hρ,hQ,hq']; omega
 have hA2:A / 2 ^ (e+2) = c∧A % 2 ^ (e+2) = 2 * q'+(if ρ = 0 then 0 else 1):=by
  have e1:A = 2 ^ (e+2) * c+(2 * q'+(if ρ = 0 then 0 else 1)):=by
   rw [hA,hpe,← hQd,Nat.mul_assoc]; split <;> omega
  have e2:2 * q'+(if ρ = 0 then 0 else 1) < 2 ^ (e+2):=by rw [hpe]; split <;> omega
  rw [e1]
  exact ⟨by rw [Nat.mul_add_div (p2 _),Nat.div_eq_of_lt e2]; omega,by rw [Nat.mul_add_mod,Nat.mod_eq_of_lt e2]⟩
 unfold cutR rnd
 rw [hdiv,hc,hrem]
 by_cases htX:t≤X
 ·rw [if_pos htX]
  obtain ⟨y,hy⟩:∃ y:Nat,(X - t).toNat = y:=⟨_,rfl⟩
  have hzy:z = (e+2)+y:=by omega
  have h1:A = 2 ^ (e+2) * (M * 2 ^ y):=by rw [hz,hzy,Nat.pow_add,Nat.mul_left_comm]
  have h2:A % 2 ^ (e+2) = 0:=by rw [h1]; exact Nat.mul_mod_right ..
  have h3:A / 2 ^ (e+2) = M * 2 ^ y:=by rw [h1]; exact Nat.mul_div_cancel_left _ (p2 _)
  rw [h2] at hA2
  have h4:q' = 0∧ρ = 0:=by
   have:=hA2.2
   split at this <;> omega
  rw [hy,← h3,hA2.1,h4.1,h4.2]
  simp
 ·rw [if_neg htX]
  obtain ⟨dr,hdr⟩:∃ dr:Nat,(t - X).toNat = dr:=⟨_,rfl⟩
  have hzd:e+2 = z+dr:=by omega
  have hdr1:1≤dr:=by omega
  have h1:M / 2 ^ dr = c:=by
   rw [← hA2.1,hz,hzd,Nat.pow_add,Nat.mul_comm M,Nat.mul_div_mul_left _ _ (p2 z)]
  have h2:2 ^ z * (M % 2 ^ dr) = 2 * q'+(if ρ = 0 then 0 else 1):=by
   rw [← hA2.2,hz,hzd,Nat.pow_add,Nat.mul_comm M,Nat.mul_mod_mul_left]
  have h3:M % 2 ^ dr≠0:=fun hc0=>by
   have:M % 2 ^ dr % 2 = 1:=by
    rw [Nat.mod_mod_of_dvd _ (Nat.dvd_of_mod_eq_zero (by rw [show dr = (dr - 1)+1 from by omega,Nat.pow_succ]; exact Nat.mul_mod_left ..))]; exact ho
   rw [hc0] at this; cases this
  have h4:d * q'+ρ≠0:=fun hc0=>by
   have hr0:ρ = 0:=by omega
   have hq0:d * q' = 0:=by omega
   have hq1:q' = 0:=by rcases Nat.mul_eq_zero.1 hq0 with h|h <;> omega
   rw [hr0,hq1] at h2
   rcases Nat.mul_eq_zero.1 (h2.trans (by simp)) with h|h
   ·have:=p2 z; omega
   ·exact h3 h
  rw [if_neg h4]
  unfold cutN
  rw [hdr,h1,ahf_hlf ho hdr1,← hlf_scale (p2 z),h2,← Nat.pow_add,← hzd]
  have hh:hlf (2 * q'+(if ρ = 0 then 0 else 1)) (2 ^ (e+2)) = hlf (d * q'+ρ) (d * 2 ^ (e+1)):=by
   rw [hpe,hpe1]
   obtain ⟨H,hH⟩:∃ H,2 ^ e = H:=⟨_,rfl⟩
   rw [hH]
   have m1:d * (2 * H) = 2 * (d * H):=Nat.mul_left_comm ..
   rw [m1]
   unfold hlf
   rcases Nat.lt_trichotomy q' H with hlt|heq|hgt
   ·have g1:d * q'+d≤d * H:=by rw [← Nat.mul_succ]; exact Nat.mul_le_mul_left d hlt
    rw [if_pos (by split <;> omega),if_pos (by omega)]
   ·subst heq
    by_cases hr:ρ = 0
    ·subst hr
     simp only [if_true]
     rw [if_neg (by omega),if_pos (by omega),if_neg (by omega),if_pos (by omega)]
    ·simp only [hr,if_false]
     rw [if_neg (by omega),if_neg (by omega),if_neg (by omega),if_neg (by omega)]
   ·have g1:d * H+d≤d * q':=by rw [← Nat.mul_succ]; exact Nat.mul_le_mul_left d hgt
    rw [if_neg (by split <;> omega),if_neg (by split <;> omega),if_neg (by omega),if_neg (by omega)]
  rw [hh]
theorem Bl.two {m k z:Nat} (h:Bl m k) (h0:0 < m):Bl (2 ^ z * m) (k+z):=by
 have hk:k≠0:=fun e=>by have:=h.1; rw [e] at this; simp at this; omega
 have hp:0 < 2 ^ z:=Nat.pow_pos (by omega)
 refine ⟨?_,Or.inr ?_⟩
 ·rw [Nat.add_comm k z,Nat.pow_add]; exact Nat.mul_lt_mul_of_pos_left h.1 hp
 ·rcases h.2 with h2|h2
  ·exact absurd h2 hk
  ·rw [show k+z - 1 = z+(k - 1) from by omega,Nat.pow_add]; exact Nat.mul_le_mul_left _ h2
theorem Bl.odd {m k:Nat} (h:Bl m k) (h0:0 < m):Bl (2 * m+1) (k+1):=by
 have h1:=(h.two (z:=1) h0)
 rw [Nat.pow_one] at h1
 have hk:k≠0:=fun e=>by have:=h.1; rw [e] at this; simp at this; omega
 have e1:2 ^ (k+1) = 2 * 2 ^ k:=by rw [Nat.pow_succ,Nat.mul_comm]
 refine ⟨?_,Or.inr ?_⟩
 ·have:=h.1; omega
 ·rcases h1.2 with h2|h2
  ·omega
  ·omega
structure Std (m d j n b z M K:Nat) (X:Int):Prop where
 hn:n = m * 2 ^ j
 hd:0 < d
 hA:(if n % d = 0 then 2 * (n / d) else 2 * (n / d)+1) = M * 2 ^ z
 ho:M % 2 = 1
 hK:Bl M K
 hb:Bl (n / d) b
 b65:65≤b
 hX:X = -(j:Int) - 1+(z:Int)
theorem Std.e {m d j n b z M K:Nat} {X:Int} (h:Std m d j n b z M K X):X+(K:Int) - 1 = (b:Int) - 1 - (j:Int):=by
 have hM:0 < M:=by have:=h.ho; omega
 have hQ:0 < n / d:=by
  refine Nat.pos_of_ne_zero fun e=>?_
  have h2:=h.hb.2
  rw [e] at h2
  have:=Nat.pow_pos (n:=b - 1) (show 0 < 2 by omega)
  have:=h.b65
  omega
 have h1:=h.hK.two (z:=z) hM
 rw [Nat.mul_comm,← h.hA] at h1
 have h2:Bl (if n % d = 0 then 2 * (n / d) else 2 * (n / d)+1) (b+1):=by
  split
  ·have:=h.hb.two (z:=1) hQ; rw [Nat.pow_one] at this; exact this
  ·exact h.hb.odd hQ
 have h3:=h1.uniq h2
 rw [h.hX]; omega
theorem Std.row {m d j n b z M K:Nat} {X:Int} (h:Std m d j n b z M K X) {B F md:Nat} {s:Bool} (hF:F≤52):∃ D:Nat,(D:Int) = lastP B F K X+(j:Int)+1∧2≤D∧cutR md s M X (lastP B F K X) = rnd md s n (d * 2 ^ (D - 1)):=by
 have he:=h.e
 have hb:=h.b65
 have hX:=h.hX
 have hl:(b:Int) - 1 - (j:Int) - (F:Int)≤lastP B F K X:=by unfold lastP; omega
 obtain ⟨D,hD⟩:∃ D:Nat,(D:Int) = lastP B F K X+(j:Int)+1:=⟨(lastP B F K X+(j:Int)+1).toNat,by omega⟩
 exact ⟨D,hD,by omega,cut_std (z:=z) h.hd rfl h.hA h.ho (by omega) (by omega)⟩
theorem rowR_mono {B F md:Nat} {s:Bool} {m d j n b z M K:Nat} {X:Int} {m' d' j' n' b' z' M' K':Nat} {X':Int} (h:Std m d j n b z M K X) (h':Std m' d' j' n' b' z' M' K' X') (hF:F≤52) (hle:m * d'≤m' * d):rowR B F md s M K X≤rowR B F md s M' K' X':=by
 have he:=h.e
 have he':=h'.e
 have hpos:∀ k,0 < 2 ^ k:=fun k=>Nat.pow_pos (by omega)
 have hee:(b:Int) - 1 - (j:Int)≤(b':Int) - 1 - (j':Int):=by
  refine Int.not_lt.1 fun hc=>?_
  have k1:b'+j≤b - 1+j':=by omega
  have l1:2 ^ (b - 1) * d≤m * 2 ^ j:=by
   rw [← h.hn]
   have h2:2 ^ (b - 1)≤n / d:=by
    rcases h.hb.2 with q|q
    ·have:=h.b65; omega
    ·exact q
   exact (Nat.le_div_iff_mul_le h.hd).1 h2
  have l2:m' * 2 ^ j' < 2 ^ b' * d':=by
   rw [← h'.hn]
   exact (Nat.div_lt_iff_lt_mul h'.hd).1 h'.hb.1
  have a1:2 ^ (b'+j) * (d * d')≤2 ^ (b - 1+j') * (d * d'):=Nat.mul_le_mul_right _ (Nat.pow_le_pow_right (by omega) k1)
  have a2:2 ^ (b - 1+j') * (d * d') = 2 ^ (b - 1) * d * (2 ^ j' * d'):=by rw [Nat.pow_add]; ac_rfl
  have a3:2 ^ (b'+j) * (d * d') = 2 ^ b' * d' * (2 ^ j * d):=by rw [Nat.pow_add]; ac_rfl
  have a4:=Nat.mul_le_mul_right (2 ^ j' * d') l1
  have a5:=Nat.mul_lt_mul_of_pos_right l2 (Nat.mul_pos (hpos j) h.hd)
  have a6:m * 2 ^ j * (2 ^ j' * d') = m * d' * (2 ^ j * 2 ^ j'):=by ac_rfl
  have a7:m' * 2 ^ j' * (2 ^ j * d) = m' * d * (2 ^ j * 2 ^ j'):=by ac_rfl
  have a8:=Nat.mul_le_mul_right (2 ^ j * 2 ^ j') hle
  omega
 obtain ⟨D,hD,hD2,hr⟩:=h.row (B:=B) (md:=md) (s:=s) hF
 obtain ⟨D',hD',hD2',hr'⟩:=h'.row (B:=B) (md:=md) (s:=s) hF
 have hM:0 < M:=by have:=h.ho; omega
 have hM':0 < M':=by have:=h'.ho; omega
 unfold rowR
 have ht:lastP B F K X≤lastP B F K' X':=by unfold lastP; omega
 rcases Int.lt_or_eq_of_le ht with hlt|heq
 ·have g1:cutR md s M X (lastP B F K X)≤2 ^ (F+1):=cutR_le h.hK hM (by unfold lastP; omega)
  have g2:2 ^ F≤cutR md s M' X' (lastP B F K' X'):=by
   have:lastP B F K' X' = X'+(K':Int) - 1 - (F:Int):=by unfold lastP at hlt ⊢; omega
   rw [this]
   exact cutR_ge h'.hK hM' rfl
  have p1:2 ^ (F+1) = 2 * 2 ^ F:=by rw [Nat.pow_succ,Nat.mul_comm]
  obtain ⟨u,hu⟩:∃ u:Nat,(lastP B F K X - (1 - (B:Int) - (F:Int))).toNat = u:=⟨_,rfl⟩
  obtain ⟨v,hv⟩:∃ v:Nat,(lastP B F K' X' - (1 - (B:Int) - (F:Int))).toNat = v:=⟨_,rfl⟩
  have huv:u+1≤v:=by unfold lastP at hlt hu hv; omega
  have g3:=Nat.mul_le_mul_right (2 ^ F) huv
  rw [Nat.add_mul,Nat.one_mul] at g3
  rw [hu,hv]
  omega
 ·rw [hr,hr',heq]
  refine Nat.add_le_add_left (rnd_mono (Nat.mul_pos h.hd (hpos _)) (Nat.mul_pos h'.hd (hpos _)) ?_) _
  rw [h.hn,h'.hn]
  have x1:m * 2 ^ j * (d' * 2 ^ (D' - 1)) = m * d' * 2 ^ (j+(D' - 1)):=by rw [Nat.pow_add]; ac_rfl
  have x2:m' * 2 ^ j' * (d * 2 ^ (D - 1)) = m' * d * 2 ^ (j+(D' - 1)):=by rw [show j+(D' - 1) = j'+(D - 1) from by omega,Nat.pow_add]; ac_rfl
  rw [x1,x2]
  exact Nat.mul_le_mul_right _ hle
theorem std_of {m d z q:Nat} (h0:0 < m) (hd:0 < d) (hz:sAns m d = 2 ^ z * (2 * q+1)) {K:Nat} (hK:Bl (2 * q+1) K):Std m d (sLift m d+sMore m d) (sAll m d) (blen (sAll m d / d)) z (2 * q+1) K (sExp m d+(z:Int)):=by
 have hn:sAll m d = m * 2 ^ (sLift m d+sMore m d):=by unfold sAll sOne; rw [Nat.pow_add,Nat.mul_assoc]
 refine ⟨hn,hd,by unfold sAns at hz; rw [hz,Nat.mul_comm],by omega,hK,bl_blen _,?_,by unfold sExp; omega⟩
 have h1:0 < sOne m d:=Nat.mul_pos h0 (Nat.pow_pos (by omega))
 have bt:=bl_blen (sOne m d)
 have bd:=bl_blen d
 have ht:2 ^ (blen (sOne m d) - 1)≤sOne m d:=by
  rcases bt.2 with e|e
  ·have:=bt.1; rw [e] at this; simp at this; omega
  ·exact e
 have ht0:blen (sOne m d)≠0:=fun e=>by have:=bt.1; rw [e] at this; simp at this; omega
 have h2:2 ^ (64+blen d)≤sAll m d:=by
  unfold sAll
  refine Nat.le_trans ?_ (Nat.mul_le_mul_right _ ht)
  rw [← Nat.pow_add]
  exact Nat.pow_le_pow_right (by omega) (by unfold sMore; omega)
 have h3:2 ^ 64≤sAll m d / d:=by
  rw [Nat.le_div_iff_mul_le hd]
  refine Nat.le_trans ?_ h2
  rw [Nat.pow_add]
  exact Nat.mul_le_mul_left _ (Nat.le_of_lt bd.1)
 exact (bl_blen _).gt_of h3
structure Sti (m q d i j n b z M K:Nat) (X:Int):Prop where
 hn:n * q * 2 ^ i = m * d * 2 ^ j
 hq:0 < q
 hd:0 < d
 hA:(if n % d = 0 then 2 * (n / d) else 2 * (n / d)+1) = M * 2 ^ z
 ho:M % 2 = 1
 hK:Bl M K
 hb:Bl (n / d) b
 b60:60≤b
 hX:X = (i:Int) - (j:Int) - 1+(z:Int)
theorem Std.sti {m d j n b z M K:Nat} {X:Int} (h:Std m d j n b z M K X):Sti m d d 0 j n b z M K X:=
 ⟨by rw [Nat.pow_zero,Nat.mul_one,h.hn]; ac_rfl,h.hd,h.hd,h.hA,h.ho,h.hK,h.hb,by have:=h.b65; omega,by rw [h.hX]; omega⟩
theorem Sti.e {m q d i j n b z M K:Nat} {X:Int} (h:Sti m q d i j n b z M K X):X+(K:Int) - 1 = (b:Int) - 1 - (j:Int)+(i:Int):=by
 have hM:0 < M:=by have:=h.ho; omega
 have hQ:0 < n / d:=by
  refine Nat.pos_of_ne_zero fun e=>?_
  have h2:=h.hb.2
  rw [e] at h2
  have:=Nat.pow_pos (n:=b - 1) (show 0 < 2 by omega)
  have:=h.b60
  omega
 have h1:=h.hK.two (z:=z) hM
 rw [Nat.mul_comm,← h.hA] at h1
 have h2:Bl (if n % d = 0 then 2 * (n / d) else 2 * (n / d)+1) (b+1):=by
  split
  ·have:=h.hb.two (z:=1) hQ; rw [Nat.pow_one] at this; exact this
  ·exact h.hb.odd hQ
 have h3:=h1.uniq h2
 rw [h.hX]; omega
theorem Sti.cut {m q d i j n b z M K:Nat} {X t:Int} (h:Sti m q d i j n b z M K X) (md:Nat) (s:Bool) (ht:X+(K:Int) - 1 - 52≤t):∃ D:Nat,(D:Int) = t+(j:Int) - (i:Int)+1∧2≤D∧cutR md s M X t = rnd md s n (d * 2 ^ (D - 1)):=by
 have he:=h.e
 have hb:=h.b60
 have hX:=h.hX
 obtain ⟨D,hD⟩:∃ D:Nat,(D:Int) = t+(j:Int) - (i:Int)+1:=⟨(t+(j:Int) - (i:Int)+1).toNat,by omega⟩
 exact ⟨D,hD,by omega,cut_std (z:=z) h.hd rfl h.hA h.ho (by omega) (by omega)⟩
theorem cross_pow {n m q d i j n' m' q' d' i' j' D D':Nat} (h1:n * q * 2 ^ i = m * d * 2 ^ j) (h2:n' * q' * 2 ^ i' = m' * d' * 2 ^ j') (hq:0 < q) (hq':0 < q') (hle:m * q'≤m' * q) (hD:D+j'+i = D'+j+i'):n * (d' * 2 ^ D')≤n' * (d * 2 ^ D):=by
 have hp2:0 < q * q' * 2 ^ (i+i'):=Nat.mul_pos (Nat.mul_pos hq hq') (Nat.pow_pos (by omega))
 have a1:n * (d' * 2 ^ D') * (q * q' * 2 ^ (i+i')) = m * q' * (d * d' * 2 ^ (j+D'+i')):=by
  have:n * (d' * 2 ^ D') * (q * q' * 2 ^ (i+i')) = n * q * 2 ^ i * (d' * q' * (2 ^ D' * 2 ^ i')):=by rw [Nat.pow_add]; ac_rfl
  rw [this,h1,Nat.pow_add,Nat.pow_add]; ac_rfl
 have a2:n' * (d * 2 ^ D) * (q * q' * 2 ^ (i+i')) = m' * q * (d * d' * 2 ^ (j'+D+i)):=by
  have:n' * (d * 2 ^ D) * (q * q' * 2 ^ (i+i')) = n' * q' * 2 ^ i' * (d * q * (2 ^ D * 2 ^ i)):=by rw [Nat.pow_add]; ac_rfl
  rw [this,h2,Nat.pow_add,Nat.pow_add]; ac_rfl
 refine Nat.le_of_mul_le_mul_right ?_ hp2
 rw [a1,a2,show j'+D+i = j+D'+i' from by omega]
 exact Nat.mul_le_mul_right _ hle
theorem Sti.le {m q d i j n b z M K:Nat} {X:Int} {m' q' d' i' j' n' b' z' M' K':Nat} {X':Int} (h:Sti m q d i j n b z M K X) (h':Sti m' q' d' i' j' n' b' z' M' K' X') (hle:m * q'≤m' * q):X+(K:Int) - 1≤X'+(K':Int) - 1:=by
 have he:=h.e
 have he':=h'.e
 have hpos:∀ k,0 < 2 ^ k:=fun k=>Nat.pow_pos (by omega)
 refine Int.not_lt.1 fun hc=>?_
 have k1:b'+j+i'+1≤b+j'+i:=by omega
 have l1:2 ^ (b - 1) * d≤n:=by
  have h2:2 ^ (b - 1)≤n / d:=by
   rcases h.hb.2 with q9|q9
   ·have:=h.b60; omega
   ·exact q9
  exact (Nat.le_div_iff_mul_le h.hd).1 h2
 have l2:n' < 2 ^ b' * d':=(Nat.div_lt_iff_lt_mul h'.hd).1 h'.hb.1
 obtain ⟨D,hD⟩:∃ D,D = j+i':=⟨_,rfl⟩
 obtain ⟨D',hD'⟩:∃ D',D' = j'+i:=⟨_,rfl⟩
 have x:=cross_pow h.hn h'.hn h.hq h'.hq hle (D:=D) (D':=D') (by omega)
 have y1:2 ^ (b - 1) * d * (d' * 2 ^ D')≤n * (d' * 2 ^ D'):=Nat.mul_le_mul_right _ l1
 have y2:n' * (d * 2 ^ D) < 2 ^ b' * d' * (d * 2 ^ D):=Nat.mul_lt_mul_of_pos_right l2 (Nat.mul_pos h.hd (hpos _))
 have y3:2 ^ (b - 1) * d * (d' * 2 ^ D') = 2 ^ (b - 1+D') * (d * d'):=by rw [Nat.pow_add]; ac_rfl
 have y4:2 ^ b' * d' * (d * 2 ^ D) = 2 ^ (b'+D) * (d * d'):=by rw [Nat.pow_add]; ac_rfl
 have hb:=h.b60
 have y5:2 ^ (b'+D) * (d * d')≤2 ^ (b - 1+D') * (d * d'):=Nat.mul_le_mul_right _ (Nat.pow_le_pow_right (by omega) (by omega))
 omega
theorem Sti.cut_le {m q d i j n b z M K:Nat} {X:Int} {m' q' d' i' j' n' b' z' M' K':Nat} {X' t:Int} (h:Sti m q d i j n b z M K X) (h':Sti m' q' d' i' j' n' b' z' M' K' X') (md:Nat) (s:Bool) (ht:X+(K:Int) - 1 - 52≤t) (ht':X'+(K':Int) - 1 - 52≤t) (hle:m * q'≤m' * q):cutR md s M X t≤cutR md s M' X' t:=by
 have hpos:∀ k,0 < 2 ^ k:=fun k=>Nat.pow_pos (by omega)
 obtain ⟨D,hD,hD2,hr⟩:=h.cut md s ht
 obtain ⟨D',hD',hD2',hr'⟩:=h'.cut md s ht'
 rw [hr,hr']
 exact rnd_mono (Nat.mul_pos h.hd (hpos _)) (Nat.mul_pos h'.hd (hpos _)) (cross_pow h.hn h'.hn h.hq h'.hq hle (by omega))
theorem Sti.whole {m q d i j n b z M K:Nat} {X t:Int} (h:Sti m q d i j n b z M K X) {D:Nat} (hD:(D:Int) = t+(j:Int) - (i:Int)+1) (hD2:2≤D):t≤X↔d * 2 ^ (D - 1) ∣ n:=by
 have hX:=h.hX
 have hA:=h.hA
 have hpos:∀ k,0 < 2 ^ k:=fun k=>Nat.pow_pos (by omega)
 have hdm:=Nat.div_add_mod n d
 constructor
 ·intro ht
  obtain ⟨y,rfl⟩:∃ y,z = y+D:=⟨z - D,by omega⟩
  obtain ⟨D1,rfl⟩:∃ D1,D = D1+1:=⟨D - 1,by omega⟩
  have e:M * 2 ^ (y+(D1+1)) = 2 * (2 ^ D1 * (M * 2 ^ y)):=by rw [Nat.pow_add,Nat.pow_succ]; ac_rfl
  rw [e] at hA
  by_cases hz:n % d = 0
  ·rw [if_pos hz] at hA
   refine ⟨M * 2 ^ y,?_⟩
   rw [show D1+1 - 1 = D1 from by omega,Nat.mul_assoc,← Nat.eq_of_mul_eq_mul_left (show 0 < 2 by omega) hA]
   omega
  ·rw [if_neg hz] at hA; omega
 ·intro ⟨c,hc⟩
  obtain ⟨D1,rfl⟩:∃ D1,D = D1+1:=⟨D - 1,by omega⟩
  rw [show D1+1 - 1 = D1 from by omega,Nat.mul_assoc] at hc
  rw [hc,Nat.mul_mod_right,if_pos rfl,Nat.mul_div_cancel_left _ h.hd] at hA
  refine Int.not_lt.1 fun hlt=>?_
  obtain ⟨y,hy⟩:∃ y,D1+1 = z+(y+1):=⟨D1 - z,by omega⟩
  have e:2 * (2 ^ D1 * c) = 2 * (2 ^ y * c) * 2 ^ z:=by
   have e0:2 ^ D1 * 2 = 2 ^ z * (2 ^ y * 2):=by rw [← Nat.pow_succ,← Nat.pow_succ,← Nat.pow_add]; exact congrArg (2 ^ ·) hy
   have e1:2 * (2 ^ D1 * c) = 2 ^ D1 * 2 * c:=by ac_rfl
   rw [e1,e0]; ac_rfl
  rw [e] at hA
  have:=Nat.eq_of_mul_eq_mul_right (hpos z) hA
  have:=h.ho
  omega
theorem dvd_cross {a N a' N':Nat} (hN:0 < N) (h:a * N' = a' * N) (hd:N ∣ a):N' ∣ a':=by
 obtain ⟨c,rfl⟩:=hd
 refine ⟨c,Nat.eq_of_mul_eq_mul_right hN ?_⟩
 rw [← h]; ac_rfl
theorem Sti.same {m q d i j n b z M K:Nat} {X:Int} {m' q' d' i' j' n' b' z' M' K':Nat} {X':Int} (h:Sti m q d i j n b z M K X) (h':Sti m' q' d' i' j' n' b' z' M' K' X') (B F I md:Nat) (s:Bool) (hF:F≤52) (he:m * q' = m' * q):rowR B F md s M K X = rowR B F md s M' K' X'∧flagR B F I md s M K X = flagR B F I md s M' K' X':=by
 have hpos:∀ k,0 < 2 ^ k:=fun k=>Nat.pow_pos (by omega)
 have ee:X+(K:Int) - 1 = X'+(K':Int) - 1:=Int.le_antisymm (h.le h' (Nat.le_of_eq he)) (h'.le h (Nat.le_of_eq he.symm))
 have cc:∀ t:Int,X+(K:Int) - 1 - 52≤t→cutR md s M X t = cutR md s M' X' t:=fun t ht=>Nat.le_antisymm (h.cut_le h' md s ht (by omega) (Nat.le_of_eq he)) (h'.cut_le h md s (by omega) ht (Nat.le_of_eq he.symm))
 have hl:lastP B F K X = lastP B F K' X':=by unfold lastP; omega
 have hlt:X+(K:Int) - 1 - 52≤lastP B F K X:=by unfold lastP; omega
 have hrow:rowR B F md s M K X = rowR B F md s M' K' X':=by unfold rowR; rw [cc _ hlt,hl]
 have hfree:freeR F md s M K X = freeR F md s M' K' X':=by unfold freeR; rw [cc _ (by omega),ee]
 have hw:lastP B F K X≤X↔lastP B F K' X'≤X':=by
  obtain ⟨D,hD,hD2,-⟩:=h.cut md s hlt
  obtain ⟨D',hD',hD2',-⟩:=h'.cut md s (t:=lastP B F K X) (by omega)
  rw [← hl,h.whole hD hD2,h'.whole hD' hD2']
  have x1:=cross_pow h.hn h'.hn h.hq h'.hq (Nat.le_of_eq he) (D:=D - 1) (D':=D' - 1) (by omega)
  have x2:=cross_pow h'.hn h.hn h'.hq h.hq (Nat.le_of_eq he.symm) (D:=D' - 1) (D':=D - 1) (by omega)
  have x:=Nat.le_antisymm x1 x2
  exact ⟨dvd_cross (Nat.mul_pos h.hd (hpos _)) x,dvd_cross (Nat.mul_pos h'.hd (hpos _)) x.symm⟩
 refine ⟨hrow,?_⟩
 unfold flagR
 rw [hrow,hfree]
 by_cases h1:lastP B F K X≤X
 ·rw [if_pos h1,if_pos (hw.1 h1)]
 ·rw [if_neg h1,if_neg (fun q=>h1 (hw.2 q))]
def mir (md:Nat):Nat:=match md with
 | 3=>4
 | 4=>3
 | m=>m
theorem mir_le {md:Nat} (h:md≤4):mir md≤4:=by
 match md,h with
 | 0,_=>decide
 | 1,_=>decide
 | 2,_=>decide
 | 3,_=>decide
 | 4,_=>decide
theorem fth_mir {md:Nat} (hm:md≤4) (s o:Bool) (h:Int):fth (mir md) (!s) o h = fth md s o h:=by
 match md,hm with
 | 0,_=>rfl
 | 1,_=>rfl
 | 2,_=>rfl
 | 3,_=>cases s <;> rfl
 | 4,_=>cases s <;> rfl
theorem cutR_mir {md:Nat} (hm:md≤4) (s:Bool) (m:Nat) (x t:Int):cutR (mir md) (!s) m x t = cutR md s m x t:=by
 unfold cutR cutN
 rw [fth_mir hm]
theorem rowR_mir {md:Nat} (hm:md≤4) (s:Bool) (B F m k:Nat) (x:Int):rowR B F (mir md) (!s) m k x = rowR B F md s m k x:=by
 unfold rowR
 rw [cutR_mir hm]
theorem flagR_mir {md:Nat} (hm:md≤4) (s:Bool) (B F I m k:Nat) (x:Int):flagR B F I (mir md) (!s) m k x = flagR B F I md s m k x:=by
 unfold flagR freeR
 rw [cutR_mir hm,rowR_mir hm]
theorem sstand_0 (w:World) (s:Bool) (a b:Option Addr) (n c k l:Nat) (h1:Num w a n 0) :
  Calls Tryz.prog 35 #[.agg #[.bool s,.slice a n c,.slice b k l],.int .i64 0] w fun en w'=>en = .returned (.tuple #[.agg #[.bool false,.slice none 0 0,.int .i64 0],.int .i64 0])∧Below w.heap.size w w':=by
 refine calls_sym Tryz.func35 rfl (by kernel_rfl) fun T hK=>?_
 replace hK:Kn T _ [(0,.agg #[.bool s,.slice a n c,.slice b k l]),(1,.int .i64 0)]:=hK
 have hS:=Fb.begin w
 have hG:GsAt [gN a n 0] w:=⟨h1,trivial⟩
 refine wp_symQ hS hG hK (fun p1=>[.n 2 #[.bool s,.slice a n c,.slice b k l] 35,.n 4 #[.bool false,.slice none 0 0,.int .i64 0] 30,.v 5 (.int .i64 0)]) (fun p1=>[(1,.int .i64 0),(2,.pointer (some ⟨(p1 0).N,0,none⟩)),(4,.pointer (some ⟨(p1 1).N,0,none⟩)),(5,.int .i64 0)]) (by kernel_rfl) (fun _ _=>by kernel_rfl) (fun _=>by kernel_rfl) (fun _=>by kernel_rfl) (fun p1=>?_) (fun p1 W1 T hF hK=>?_)
 ·iterate 2 refine ok_n (fun _=>by kernel_rfl) ?_
  refine ok_v (by kernel_rfl) ?_
  exact ok_nil
 replace hS:=SymF.fb hS hF [1000,1001] [⟨(p1 0).N,#[.bool s,.slice a n c,.slice b k l],35,true⟩,⟨(p1 1).N,#[.bool false,.slice none 0 0,.int .i64 0],30,true⟩] (by kernel_rfl) (by kernel_rfl)
 replace hG:=hF.gx
 clear hF
 have z1:=hS.fr.size
 refine wp_seq ?_
 refine wp_symQ hS hG hK (fun p2=>[.v 10 (.pointer (some ⟨(p1 0).N,1,none⟩)),.l 11 (.agg #[.slice a n c]) 0 1,.c (some 12) (cV (.bool true))]) (fun p2=>[(1,.int .i64 0),(2,.pointer (some ⟨(p1 0).N,0,none⟩)),(4,.pointer (some ⟨(p1 1).N,0,none⟩)),(5,.int .i64 0),(12,.bool true)]) (by kernel_rfl) (fun _ _=>by kernel_rfl) (fun _=>by kernel_rfl) (fun _=>by kernel_rfl) (fun p2=>?_) (fun p2 W2 T hF hK=>?_)
 ·refine ok_v (by kernel_rfl) ?_
  refine ok_L (by kernel_rfl) (by kernel_rfl) (by kernel_rfl) ?_
  refine ok_c (fun W cx=>as_v (snought a _ c _ _ (Num.isz (cx.G.1) rfl))) (by kernel_rfl) ?_
  exact ok_nil
 replace hS:=SymF.fb hS hF [0,1] [⟨(p1 0).N,#[.bool s,.slice a n c,.slice b k l],35,true⟩,⟨(p1 1).N,#[.bool false,.slice none 0 0,.int .i64 0],30,true⟩] (by kernel_rfl) (by kernel_rfl)
 replace hG:=hF.gx
 clear hF
 have z2:=hS.fr.size
 refine wp_cond_true (hK.ev 12 (by kernel_rfl) _ (by kernel_rfl)) ?_
 refine wp_symQ hS hG hK (fun p3=>[.v 13 (.agg #[.bool false,.slice none 0 0,.int .i64 0]),.p 1 0 [.bool false,.slice none 0 0,.int .i64 0],.v 5 (.int .i64 0)]) (fun p3=>[(1,.int .i64 0),(2,.pointer (some ⟨(p1 0).N,0,none⟩)),(4,.pointer (some ⟨(p1 1).N,0,none⟩)),(5,.int .i64 0),(12,.bool true)]) (by kernel_rfl) (fun _ _=>by kernel_rfl) (fun _=>by kernel_rfl) (fun _=>by kernel_rfl) (fun p3=>?_) (fun p3 W3 T hF hK=>?_)
 ·refine ok_v (by kernel_rfl) ?_
  refine ok_P (by kernel_rfl) (by kernel_rfl) (by kernel_rfl) ?_
  refine ok_v (by kernel_rfl) ?_
  exact ok_nil
 replace hS:=SymF.fb hS hF [0,1] [⟨(p1 0).N,#[.bool s,.slice a n c,.slice b k l],35,true⟩,⟨(p1 1).N,#[.bool false,.slice none 0 0,.int .i64 0],30,true⟩] (by kernel_rfl) (by kernel_rfl)
 replace hG:=hF.gx
 clear hF
 have z3:=hS.fr.size
 refine wp_ret ?_
 refine then_r ?_
 exact sym_end hS hK (.tuple #[.agg #[.bool false,.slice none 0 0,.int .i64 0],.int .i64 0]) [(1,0,3)] [.bool false,.slice none 0 0,.int .i64 0] (by kernel_rfl) (by kernel_rfl) ⟨rfl,hS.fr⟩
theorem sask_f (w:World) (E F:Int) (s:Bool) (a b:Option Addr) (n c k l:Nat) (e1:Int) (he:e1≠0) (H1:Hid (∀ W:World,Below w.heap.size w W→Calls Tryz.prog 31 #[.agg #[.int .i64 E,.int .i64 F]] W fun e W'=>e = .returned (.int .i64 e1)∧Below W.heap.size W W')) :
  Calls Tryz.prog 12 #[.agg #[.int .i64 E,.int .i64 F],.agg #[.bool s,.slice a n c,.slice b k l]] w fun en w'=>en = .returned (.bool false)∧Below w.heap.size w w':=by
 refine calls_sym Tryz.func12 rfl (by kernel_rfl) fun T hK=>?_
 replace hK:Kn T _ [(0,.agg #[.int .i64 E,.int .i64 F]),(1,.agg #[.bool s,.slice a n c,.slice b k l])]:=hK
 have hS:=Fb.begin w
 have hG:GsAt [] w:=trivial
 refine wp_symQ hS hG hK (fun p1=>[.n 2 #[.int .i64 E,.int .i64 F] 23,.n 3 #[.bool s,.slice a n c,.slice b k l] 35,.v 4 (.bool false)]) (fun p1=>[(2,.pointer (some ⟨(p1 0).N,0,none⟩)),(3,.pointer (some ⟨(p1 1).N,0,none⟩)),(4,.bool false)]) (by kernel_rfl) (fun _ _=>by kernel_rfl) (fun _=>by kernel_rfl) (fun _=>by kernel_rfl) (fun p1=>?_) (fun p1 W1 T hF hK=>?_)
 ·iterate 2 refine ok_n (fun _=>by kernel_rfl) ?_
  refine ok_v (by kernel_rfl) ?_
  exact ok_nil
 replace hS:=SymF.fb hS hF [1000,1001] [⟨(p1 0).N,#[.int .i64 E,.int .i64 F],23,true⟩,⟨(p1 1).N,#[.bool s,.slice a n c,.slice b k l],35,true⟩] (by kernel_rfl) (by kernel_rfl)
 replace hG:=hF.gx
 clear hF
 have z1:=hS.fr.size
 refine wp_symQ hS hG hK (fun p2=>[.l 5 (.agg #[.int .i64 E,.int .i64 F]) 0 0,.c (some 6) (cV (.int .i64 e1)),.v 7 (.bool false),.v 8 (.bool false),.k (some 9),.k (some 10),.k (some 11),.v 12 (.bool false),.v 13 (.bool false),.k (some 14),.k (some 15),.k (some 16),.k (some 17),.k (some 18),.v 19 (.bool false),.v 20 (.bool false),.k (some 21),.k (some 22),.k (some 23),.k (some 24),.k (some 25),.v 26 (.bool false),.v 4 (.bool false)]) (fun p2=>[(4,.bool false)]) (by kernel_rfl) (fun _ _=>by kernel_rfl) (fun _=>by kernel_rfl) (fun _=>by kernel_rfl) (fun p2=>?_) (fun p2 W2 T hF hK=>?_)
 ·refine ok_L (by kernel_rfl) (by kernel_rfl) (by kernel_rfl) ?_
  refine ok_c (fun W cx=>as_v (unhide H1 _ cx.fr)) (by kernel_rfl) ?_
  refine ok_vb (beq_false_of_ne he) (by kernel_rfl) ?_
  refine ok_v (by kernel_rfl) ?_
  iterate 3 refine ok_K (by kernel_rfl) ?_
  iterate 2 refine ok_v (by kernel_rfl) ?_
  iterate 5 refine ok_K (by kernel_rfl) ?_
  iterate 2 refine ok_v (by kernel_rfl) ?_
  iterate 5 refine ok_K (by kernel_rfl) ?_
  iterate 2 refine ok_v (by kernel_rfl) ?_
  exact ok_nil
 replace hS:=SymF.fb hS hF [] [] (by kernel_rfl) (by kernel_rfl)
 replace hG:=hF.gx
 clear hF
 have z2:=hS.fr.size
 refine wp_ret ?_
 exact sym_end hS hK (.bool false) [] [] (by kernel_rfl) (by kernel_rfl) ⟨rfl,hS.fr⟩
theorem sask_r (w:World) (E F:Int) (s:Bool) (a b:Option Addr) (n c k l:Nat) (e2:Int) (he:e2≠0) (H1:Hid (∀ W:World,Below w.heap.size w W→Calls Tryz.prog 31 #[.agg #[.int .i64 E,.int .i64 F]] W fun e W'=>e = .returned (.int .i64 0)∧Below W.heap.size W W')) (H2:Hid (∀ W:World,Below w.heap.size w W→Calls Tryz.prog 24 #[.agg #[.bool s,.slice a n c,.slice b k l]] W fun e W'=>e = .returned (.int .i64 e2)∧Below W.heap.size W W')) :
  Calls Tryz.prog 12 #[.agg #[.int .i64 E,.int .i64 F],.agg #[.bool s,.slice a n c,.slice b k l]] w fun en w'=>en = .returned (.bool false)∧Below w.heap.size w w':=by
 refine calls_sym Tryz.func12 rfl (by kernel_rfl) fun T hK=>?_
 replace hK:Kn T _ [(0,.agg #[.int .i64 E,.int .i64 F]),(1,.agg #[.bool s,.slice a n c,.slice b k l])]:=hK
 have hS:=Fb.begin w
 have hG:GsAt [] w:=trivial
 refine wp_symQ hS hG hK (fun p1=>[.n 2 #[.int .i64 E,.int .i64 F] 23,.n 3 #[.bool s,.slice a n c,.slice b k l] 35,.v 4 (.bool false)]) (fun p1=>[(2,.pointer (some ⟨(p1 0).N,0,none⟩)),(3,.pointer (some ⟨(p1 1).N,0,none⟩)),(4,.bool false)]) (by kernel_rfl) (fun _ _=>by kernel_rfl) (fun _=>by kernel_rfl) (fun _=>by kernel_rfl) (fun p1=>?_) (fun p1 W1 T hF hK=>?_)
 ·iterate 2 refine ok_n (fun _=>by kernel_rfl) ?_
  refine ok_v (by kernel_rfl) ?_
  exact ok_nil
 replace hS:=SymF.fb hS hF [1000,1001] [⟨(p1 0).N,#[.int .i64 E,.int .i64 F],23,true⟩,⟨(p1 1).N,#[.bool s,.slice a n c,.slice b k l],35,true⟩] (by kernel_rfl) (by kernel_rfl)
 replace hG:=hF.gx
 clear hF
 have z1:=hS.fr.size
 refine wp_symQ hS hG hK (fun p2=>[.l 5 (.agg #[.int .i64 E,.int .i64 F]) 0 0,.c (some 6) (cV (.int .i64 0)),.v 7 (.bool true),.v 8 (.bool true),.l 9 (.agg #[.bool s,.slice a n c,.slice b k l]) 1 0,.c (some 10) (cV (.int .i64 e2)),.v 11 (.bool false),.v 12 (.bool false),.v 13 (.bool false),.k (some 14),.k (some 15),.k (some 16),.k (some 17),.k (some 18),.v 19 (.bool false),.v 20 (.bool false),.k (some 21),.k (some 22),.k (some 23),.k (some 24),.k (some 25),.v 26 (.bool false),.v 4 (.bool false)]) (fun p2=>[(4,.bool false)]) (by kernel_rfl) (fun _ _=>by kernel_rfl) (fun _=>by kernel_rfl) (fun _=>by kernel_rfl) (fun p2=>?_) (fun p2 W2 T hF hK=>?_)
 ·refine ok_L (by kernel_rfl) (by kernel_rfl) (by kernel_rfl) ?_
  refine ok_c (fun W cx=>as_v (unhide H1 _ cx.fr)) (by kernel_rfl) ?_
  iterate 2 refine ok_v (by kernel_rfl) ?_
  refine ok_L (by kernel_rfl) (by kernel_rfl) (by kernel_rfl) ?_
  refine ok_c (fun W cx=>as_v (unhide H2 _ cx.fr)) (by kernel_rfl) ?_
  refine ok_vb (beq_false_of_ne he) (by kernel_rfl) ?_
  iterate 2 refine ok_v (by kernel_rfl) ?_
  iterate 5 refine ok_K (by kernel_rfl) ?_
  iterate 2 refine ok_v (by kernel_rfl) ?_
  iterate 5 refine ok_K (by kernel_rfl) ?_
  iterate 2 refine ok_v (by kernel_rfl) ?_
  exact ok_nil
 replace hS:=SymF.fb hS hF [] [] (by kernel_rfl) (by kernel_rfl)
 replace hG:=hF.gx
 clear hF
 have z2:=hS.fr.size
 refine wp_ret ?_
 exact sym_end hS hK (.bool false) [] [] (by kernel_rfl) (by kernel_rfl) ⟨rfl,hS.fr⟩
theorem sask_n (w:World) (E F:Int) (s:Bool) (a b:Option Addr) (n c k l:Nat) (hn:60 < n) (H1:Hid (∀ W:World,Below w.heap.size w W→Calls Tryz.prog 31 #[.agg #[.int .i64 E,.int .i64 F]] W fun e W'=>e = .returned (.int .i64 0)∧Below W.heap.size W W')) (H2:Hid (∀ W:World,Below w.heap.size w W→Calls Tryz.prog 24 #[.agg #[.bool s,.slice a n c,.slice b k l]] W fun e W'=>e = .returned (.int .i64 0)∧Below W.heap.size W W')) :
  Calls Tryz.prog 12 #[.agg #[.int .i64 E,.int .i64 F],.agg #[.bool s,.slice a n c,.slice b k l]] w fun en w'=>en = .returned (.bool false)∧Below w.heap.size w w':=by
 refine calls_sym Tryz.func12 rfl (by kernel_rfl) fun T hK=>?_
 replace hK:Kn T _ [(0,.agg #[.int .i64 E,.int .i64 F]),(1,.agg #[.bool s,.slice a n c,.slice b k l])]:=hK
 have hS:=Fb.begin w
 have hG:GsAt [] w:=trivial
 refine wp_symQ hS hG hK (fun p1=>[.n 2 #[.int .i64 E,.int .i64 F] 23,.n 3 #[.bool s,.slice a n c,.slice b k l] 35,.v 4 (.bool false)]) (fun p1=>[(2,.pointer (some ⟨(p1 0).N,0,none⟩)),(3,.pointer (some ⟨(p1 1).N,0,none⟩)),(4,.bool false)]) (by kernel_rfl) (fun _ _=>by kernel_rfl) (fun _=>by kernel_rfl) (fun _=>by kernel_rfl) (fun p1=>?_) (fun p1 W1 T hF hK=>?_)
 ·iterate 2 refine ok_n (fun _=>by kernel_rfl) ?_
  refine ok_v (by kernel_rfl) ?_
  exact ok_nil
 replace hS:=SymF.fb hS hF [1000,1001] [⟨(p1 0).N,#[.int .i64 E,.int .i64 F],23,true⟩,⟨(p1 1).N,#[.bool s,.slice a n c,.slice b k l],35,true⟩] (by kernel_rfl) (by kernel_rfl)
 replace hG:=hF.gx
 clear hF
 have z1:=hS.fr.size
 refine wp_symQ hS hG hK (fun p2=>[.l 5 (.agg #[.int .i64 E,.int .i64 F]) 0 0,.c (some 6) (cV (.int .i64 0)),.v 7 (.bool true),.v 8 (.bool true),.l 9 (.agg #[.bool s,.slice a n c,.slice b k l]) 1 0,.c (some 10) (cV (.int .i64 0)),.v 11 (.bool true),.v 12 (.bool true),.v 13 (.bool true),.v 14 (.pointer (some ⟨(p1 1).N,1,none⟩)),.v 15 (.pointer (some ⟨(p1 1).N,1,none⟩)),.l 16 (.slice a n c) 1 1,.v 17 (.int .i64 (n:Int)),.v 18 (.bool false),.v 19 (.bool false),.v 20 (.bool false),.k (some 21),.k (some 22),.k (some 23),.k (some 24),.k (some 25),.v 26 (.bool false),.v 4 (.bool false)]) (fun p2=>[(4,.bool false)]) (by kernel_rfl) (fun _ _=>by kernel_rfl) (fun _=>by kernel_rfl) (fun _=>by kernel_rfl) (fun p2=>?_) (fun p2 W2 T hF hK=>?_)
 ·refine ok_L (by kernel_rfl) (by kernel_rfl) (by kernel_rfl) ?_
  refine ok_c (fun W cx=>as_v (unhide H1 _ cx.fr)) (by kernel_rfl) ?_
  iterate 2 refine ok_v (by kernel_rfl) ?_
  refine ok_L (by kernel_rfl) (by kernel_rfl) (by kernel_rfl) ?_
  refine ok_c (fun W cx=>as_v (unhide H2 _ cx.fr)) (by kernel_rfl) ?_
  iterate 5 refine ok_v (by kernel_rfl) ?_
  refine ok_L (by kernel_rfl) (by kernel_rfl) (by kernel_rfl) ?_
  refine ok_v (by kernel_rfl) ?_
  refine ok_vb (decide_eq_false (show ¬ (n:Int)≤60 by omega)) (by kernel_rfl) ?_
  iterate 2 refine ok_v (by kernel_rfl) ?_
  iterate 5 refine ok_K (by kernel_rfl) ?_
  iterate 2 refine ok_v (by kernel_rfl) ?_
  exact ok_nil
 replace hS:=SymF.fb hS hF [] [] (by kernel_rfl) (by kernel_rfl)
 replace hG:=hF.gx
 clear hF
 have z2:=hS.fr.size
 refine wp_ret ?_
 exact sym_end hS hK (.bool false) [] [] (by kernel_rfl) (by kernel_rfl) ⟨rfl,hS.fr⟩
theorem sask_d (w:World) (E F:Int) (s:Bool) (a b:Option Addr) (n c k l:Nat) (hn:n≤60) (hk:60 < k) (H1:Hid (∀ W:World,Below w.heap.size w W→Calls Tryz.prog 31 #[.agg #[.int .i64 E,.int .i64 F]] W fun e W'=>e = .returned (.int .i64 0)∧Below W.heap.size W W')) (H2:Hid (∀ W:World,Below w.heap.size w W→Calls Tryz.prog 24 #[.agg #[.bool s,.slice a n c,.slice b k l]] W fun e W'=>e = .returned (.int .i64 0)∧Below W.heap.size W W')) :
  Calls Tryz.prog 12 #[.agg #[.int .i64 E,.int .i64 F],.agg #[.bool s,.slice a n c,.slice b k l]] w fun en w'=>en = .returned (.bool false)∧Below w.heap.size w w':=by
 refine calls_sym Tryz.func12 rfl (by kernel_rfl) fun T hK=>?_
 replace hK:Kn T _ [(0,.agg #[.int .i64 E,.int .i64 F]),(1,.agg #[.bool s,.slice a n c,.slice b k l])]:=hK
 have hS:=Fb.begin w
 have hG:GsAt [] w:=trivial
 refine wp_symQ hS hG hK (fun p1=>[.n 2 #[.int .i64 E,.int .i64 F] 23,.n 3 #[.bool s,.slice a n c,.slice b k l] 35,.v 4 (.bool false)]) (fun p1=>[(2,.pointer (some ⟨(p1 0).N,0,none⟩)),(3,.pointer (some ⟨(p1 1).N,0,none⟩)),(4,.bool false)]) (by kernel_rfl) (fun _ _=>by kernel_rfl) (fun _=>by kernel_rfl) (fun _=>by kernel_rfl) (fun p1=>?_) (fun p1 W1 T hF hK=>?_)
 ·iterate 2 refine ok_n (fun _=>by kernel_rfl) ?_
  refine ok_v (by kernel_rfl) ?_
  exact ok_nil
 replace hS:=SymF.fb hS hF [1000,1001] [⟨(p1 0).N,#[.int .i64 E,.int .i64 F],23,true⟩,⟨(p1 1).N,#[.bool s,.slice a n c,.slice b k l],35,true⟩] (by kernel_rfl) (by kernel_rfl)
 replace hG:=hF.gx
 clear hF
 have z1:=hS.fr.size
 refine wp_symQ hS hG hK (fun p2=>[.l 5 (.agg #[.int .i64 E,.int .i64 F]) 0 0,.c (some 6) (cV (.int .i64 0)),.v 7 (.bool true),.v 8 (.bool true),.l 9 (.agg #[.bool s,.slice a n c,.slice b k l]) 1 0,.c (some 10) (cV (.int .i64 0)),.v 11 (.bool true),.v 12 (.bool true),.v 13 (.bool true),.v 14 (.pointer (some ⟨(p1 1).N,1,none⟩)),.v 15 (.pointer (some ⟨(p1 1).N,1,none⟩)),.l 16 (.slice a n c) 1 1,.v 17 (.int .i64 (n:Int)),.v 18 (.bool true),.v 19 (.bool true),.v 20 (.bool true),.v 21 (.pointer (some ⟨(p1 1).N,2,none⟩)),.v 22 (.pointer (some ⟨(p1 1).N,2,none⟩)),.l 23 (.slice b k l) 1 2,.v 24 (.int .i64 (k:Int)),.v 25 (.bool false),.v 26 (.bool false),.v 4 (.bool false)]) (fun p2=>[(4,.bool false)]) (by kernel_rfl) (fun _ _=>by kernel_rfl) (fun _=>by kernel_rfl) (fun _=>by kernel_rfl) (fun p2=>?_) (fun p2 W2 T hF hK=>?_)
 ·refine ok_L (by kernel_rfl) (by kernel_rfl) (by kernel_rfl) ?_
  refine ok_c (fun W cx=>as_v (unhide H1 _ cx.fr)) (by kernel_rfl) ?_
  iterate 2 refine ok_v (by kernel_rfl) ?_
  refine ok_L (by kernel_rfl) (by kernel_rfl) (by kernel_rfl) ?_
  refine ok_c (fun W cx=>as_v (unhide H2 _ cx.fr)) (by kernel_rfl) ?_
  iterate 5 refine ok_v (by kernel_rfl) ?_
  refine ok_L (by kernel_rfl) (by kernel_rfl) (by kernel_rfl) ?_
  refine ok_v (by kernel_rfl) ?_
  refine ok_vb (decide_eq_true (show (n:Int)≤60 by omega)) (by kernel_rfl) ?_
  iterate 4 refine ok_v (by kernel_rfl) ?_
  refine ok_L (by kernel_rfl) (by kernel_rfl) (by kernel_rfl) ?_
  refine ok_v (by kernel_rfl) ?_
  refine ok_vb (decide_eq_false (show ¬ (k:Int)≤60 by omega)) (by kernel_rfl) ?_
  iterate 2 refine ok_v (by kernel_rfl) ?_
  exact ok_nil
 replace hS:=SymF.fb hS hF [] [] (by kernel_rfl) (by kernel_rfl)
 replace hG:=hF.gx
 clear hF
 have z2:=hS.fr.size
 refine wp_ret ?_
 exact sym_end hS hK (.bool false) [] [] (by kernel_rfl) (by kernel_rfl) ⟨rfl,hS.fr⟩
theorem sask_ok (w:World) (E F:Int) (s:Bool) (a b:Option Addr) (n c k l:Nat) (hn:n≤60) (hk:k≤60) (H1:Hid (∀ W:World,Below w.heap.size w W→Calls Tryz.prog 31 #[.agg #[.int .i64 E,.int .i64 F]] W fun e W'=>e = .returned (.int .i64 0)∧Below W.heap.size W W')) (H2:Hid (∀ W:World,Below w.heap.size w W→Calls Tryz.prog 24 #[.agg #[.bool s,.slice a n c,.slice b k l]] W fun e W'=>e = .returned (.int .i64 0)∧Below W.heap.size W W')) :
  Calls Tryz.prog 12 #[.agg #[.int .i64 E,.int .i64 F],.agg #[.bool s,.slice a n c,.slice b k l]] w fun en w'=>en = .returned (.bool true)∧Below w.heap.size w w':=by
 refine calls_sym Tryz.func12 rfl (by kernel_rfl) fun T hK=>?_
 replace hK:Kn T _ [(0,.agg #[.int .i64 E,.int .i64 F]),(1,.agg #[.bool s,.slice a n c,.slice b k l])]:=hK
 have hS:=Fb.begin w
 have hG:GsAt [] w:=trivial
 refine wp_symQ hS hG hK (fun p1=>[.n 2 #[.int .i64 E,.int .i64 F] 23,.n 3 #[.bool s,.slice a n c,.slice b k l] 35,.v 4 (.bool false)]) (fun p1=>[(2,.pointer (some ⟨(p1 0).N,0,none⟩)),(3,.pointer (some ⟨(p1 1).N,0,none⟩)),(4,.bool false)]) (by kernel_rfl) (fun _ _=>by kernel_rfl) (fun _=>by kernel_rfl) (fun _=>by kernel_rfl) (fun p1=>?_) (fun p1 W1 T hF hK=>?_)
 ·iterate 2 refine ok_n (fun _=>by kernel_rfl) ?_
  refine ok_v (by kernel_rfl) ?_
  exact ok_nil
 replace hS:=SymF.fb hS hF [1000,1001] [⟨(p1 0).N,#[.int .i64 E,.int .i64 F],23,true⟩,⟨(p1 1).N,#[.bool s,.slice a n c,.slice b k l],35,true⟩] (by kernel_rfl) (by kernel_rfl)
 replace hG:=hF.gx
 clear hF
 have z1:=hS.fr.size
 refine wp_symQ hS hG hK (fun p2=>[.l 5 (.agg #[.int .i64 E,.int .i64 F]) 0 0,.c (some 6) (cV (.int .i64 0)),.v 7 (.bool true),.v 8 (.bool true),.l 9 (.agg #[.bool s,.slice a n c,.slice b k l]) 1 0,.c (some 10) (cV (.int .i64 0)),.v 11 (.bool true),.v 12 (.bool true),.v 13 (.bool true),.v 14 (.pointer (some ⟨(p1 1).N,1,none⟩)),.v 15 (.pointer (some ⟨(p1 1).N,1,none⟩)),.l 16 (.slice a n c) 1 1,.v 17 (.int .i64 (n:Int)),.v 18 (.bool true),.v 19 (.bool true),.v 20 (.bool true),.v 21 (.pointer (some ⟨(p1 1).N,2,none⟩)),.v 22 (.pointer (some ⟨(p1 1).N,2,none⟩)),.l 23 (.slice b k l) 1 2,.v 24 (.int .i64 (k:Int)),.v 25 (.bool true),.v 26 (.bool true),.v 4 (.bool true)]) (fun p2=>[(4,.bool true)]) (by kernel_rfl) (fun _ _=>by kernel_rfl) (fun _=>by kernel_rfl) (fun _=>by kernel_rfl) (fun p2=>?_) (fun p2 W2 T hF hK=>?_)
 ·refine ok_L (by kernel_rfl) (by kernel_rfl) (by kernel_rfl) ?_
  refine ok_c (fun W cx=>as_v (unhide H1 _ cx.fr)) (by kernel_rfl) ?_
  iterate 2 refine ok_v (by kernel_rfl) ?_
  refine ok_L (by kernel_rfl) (by kernel_rfl) (by kernel_rfl) ?_
  refine ok_c (fun W cx=>as_v (unhide H2 _ cx.fr)) (by kernel_rfl) ?_
  iterate 5 refine ok_v (by kernel_rfl) ?_
  refine ok_L (by kernel_rfl) (by kernel_rfl) (by kernel_rfl) ?_
  refine ok_v (by kernel_rfl) ?_
  refine ok_vb (decide_eq_true (show (n:Int)≤60 by omega)) (by kernel_rfl) ?_
  iterate 4 refine ok_v (by kernel_rfl) ?_
  refine ok_L (by kernel_rfl) (by kernel_rfl) (by kernel_rfl) ?_
  refine ok_v (by kernel_rfl) ?_
  refine ok_vb (decide_eq_true (show (k:Int)≤60 by omega)) (by kernel_rfl) ?_
  iterate 2 refine ok_v (by kernel_rfl) ?_
  exact ok_nil
 replace hS:=SymF.fb hS hF [] [] (by kernel_rfl) (by kernel_rfl)
 replace hG:=hF.gx
 clear hF
 have z2:=hS.fr.size
 refine wp_ret ?_
 exact sym_end hS hK (.bool true) [] [] (by kernel_rfl) (by kernel_rfl) ⟨rfl,hS.fr⟩
def nmL (j:Nat):List UInt8:=match j with
 | 0=>[101,118,101,110]
 | 1=>[97,119,97,121]
 | 2=>[122,101,114,111]
 | 3=>[117,112]
 | _=>[100,111,119,110]
structure Nb5 (w:World):Prop where
 lt:0 < w.heap.size
 c0:w.cell? ⟨0,0,none⟩ = some (.string ⟨#[101,118,101,110]⟩)
 c1:w.cell? ⟨0,1,none⟩ = some (.string ⟨#[97,119,97,121]⟩)
 c2:w.cell? ⟨0,2,none⟩ = some (.string ⟨#[122,101,114,111]⟩)
 c3:w.cell? ⟨0,3,none⟩ = some (.string ⟨#[117,112]⟩)
 c4:w.cell? ⟨0,4,none⟩ = some (.string ⟨#[100,111,119,110]⟩)
theorem Nb5.kept {w w':World} (h:Nb5 w) (hb:Below w.heap.size w w'):Nb5 w':=
 ⟨Nat.lt_of_lt_of_le h.lt hb.size,(hb.cell (p:=⟨0,0,none⟩) h.lt).trans h.c0,(hb.cell (p:=⟨0,1,none⟩) h.lt).trans h.c1,(hb.cell (p:=⟨0,2,none⟩) h.lt).trans h.c2,(hb.cell (p:=⟨0,3,none⟩) h.lt).trans h.c3,(hb.cell (p:=⟨0,4,none⟩) h.lt).trans h.c4⟩
theorem named_1 (s:ByteArray) (w:World) (h:Nb5 w) (e0:(([101,118,101,110]:List UInt8) == s.toList) = false) (e1:(([97,119,97,121]:List UInt8) == s.toList) = true) :
  Calls Tryz.prog 16 #[.string s] w fun e w'=>e = .returned (.tuple #[.int .u8 1,.bool true])∧Below w.heap.size w w':=by
 obtain ⟨-,c0,c1,c2,c3,c4⟩:=h
 have x0:∀ v:World,(Instr.index 102 (.agg #[.string ⟨#[101,118,101,110]⟩,.string ⟨#[97,119,97,121]⟩,.string ⟨#[122,101,114,111]⟩,.string ⟨#[117,112]⟩,.string ⟨#[100,111,119,110]⟩]) (.int .i64 0)).run Tryz.prog v = .ok (.string ⟨#[101,118,101,110]⟩) v:=fun _=>by kernel_rfl
 have x1:∀ v:World,(Instr.index 102 (.agg #[.string ⟨#[101,118,101,110]⟩,.string ⟨#[97,119,97,121]⟩,.string ⟨#[122,101,114,111]⟩,.string ⟨#[117,112]⟩,.string ⟨#[100,111,119,110]⟩]) (.int .i64 1)).run Tryz.prog v = .ok (.string ⟨#[97,119,97,121]⟩) v:=fun _=>by kernel_rfl
 go_enter Tryz.func16,Tryz.ntmps16
 go_wp2_with fail
 refine wp_loop_rounds 6 ?_
 rw [rounds_succ]
 go_wp2
 rw [rounds_succ]
 go_wp2
 go_ret2
 exact ⟨rfl,Below.refl _ _⟩
end Go.Proofs.YtbbhlfngjoongaaGreatDoor
