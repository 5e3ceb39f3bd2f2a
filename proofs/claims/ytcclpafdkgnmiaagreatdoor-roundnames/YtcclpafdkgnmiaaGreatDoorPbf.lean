/- Of what RoundNamesRow stands on: SRdB SRdC SNames. -/
import Derived.Test.YtcclpafdkgnmiaaGreatDoorPbe
import Derived.Test.YtcclpafdkgnmiaaGreatDoorPba
import Derived.Test.YtcclpafdkgnmiaaGreatDoorPaj
import Derived.Test.YtcclpafdkgnmiaaGreatDoorPbd
import Derived.Test.YtcclpafdkgnmiaaGreatDoorPax
namespace Go.Proofs.YtcclpafdkgnmiaaGreatDoor
open Go.RowKit
set_option maxHeartbeats 2000000
set_option maxRecDepth 20000
theorem sstand_is (w:World) (s:Bool) (a b:Option Addr) (n c k l x y i j:Nat) (sz e X:Int) (v M:Nat) (hT:Tb w) (h1:Num w a n x) (h2:Num w b k y) (hx:x≠0) (hi:i≤524288) (hj:j≤524288) (hz:(i:Int) - (j:Int) = sz) (hz1:-4096≤sz) (hz2:sz≤4096) (HB1:Hid (HBits x i)) (HB2:Hid (HBits y j)) (HP:Hid HPow0) (HF:Hid (∀ (W:World) (p:Nat) (A:Option Addr) (N C:Nat) (A':Option Addr) (N' C':Nat),Rn W p 0→Num W a n x→Num W A N 1→Num W b k y→Num W A' N' 1→Calls Tryz.prog 68 #[.agg #[.slice a n c,.slice A N C,.slice b k l,.slice A' N' C',.int .i64 0],.pointer (some ⟨p,0,none⟩)] W fun en W'=>(∃ A N C,en = .returned (.tuple #[.agg #[.slice A N C],.int .i64 e])∧Mine W' W.heap.size A N C v)∧Below W.heap.size W W')) (HK:Hid (∀ (W:World) (B:Nat) (A:Option Addr) (N C:Nat),Tb W→Mine W B A N C v→Calls Tryz.prog 66 #[.bool s,.agg #[.slice A N C],.int .i64 e] W fun en W'=>(∃ A N C,en = .returned (.tuple #[.agg #[.bool s,.slice A N C,.int .i64 X],.int .i64 0])∧Mine W' W.heap.size A N C M)∧Below W.heap.size W W')) :
  Calls Tryz.prog 46 #[.agg #[.bool s,.slice a n c,.slice b k l],.int .i64 0] w fun en w'=>(∃ A N C,en = .returned (.tuple #[.agg #[.bool s,.slice A N C,.int .i64 X],.int .i64 0])∧Mine w' w.heap.size A N C M)∧Below w.heap.size w w':=by
 refine calls_sym Tryz.func46 rfl (by kernel_rfl) fun T hK=>?_
 replace hK:Kn T _ [(0,.agg #[.bool s,.slice a n c,.slice b k l]),(1,.int .i64 0)]:=hK
 have hS:=Fb.begin w
 have hG:GsAt [gN a n x,gN b k y] w:=⟨h1,h2,trivial⟩
 refine wp_symQ hS hG hK (fun p1=>[.n 2 #[.bool s,.slice a n c,.slice b k l] 27,.n 4 #[.bool false,.slice none 0 0,.int .i64 0] 91,.v 5 (.int .i64 0)]) (fun p1=>[(1,.int .i64 0),(2,.pointer (some ⟨(p1 0).N,0,none⟩)),(4,.pointer (some ⟨(p1 1).N,0,none⟩)),(5,.int .i64 0)]) (by kernel_rfl) (fun _ _=>by kernel_rfl) (fun _=>by kernel_rfl) (fun _=>by kernel_rfl) (fun p1=>?_) (fun p1 W1 T hF hK=>?_)
 ·iterate 2 refine ok_n (fun _=>by kernel_rfl) ?_
  refine ok_v (by kernel_rfl) ?_
  exact ok_nil
 replace hS:=SymF.fb hS hF [1000,1001] [⟨(p1 0).N,#[.bool s,.slice a n c,.slice b k l],27,true⟩,⟨(p1 1).N,#[.bool false,.slice none 0 0,.int .i64 0],91,true⟩] (by kernel_rfl) (by kernel_rfl)
 replace hG:=hF.gx
 clear hF
 have z1:=hS.fr.size
 refine wp_seq ?_
 refine wp_symQ hS hG hK (fun p2=>[.v 10 (.pointer (some ⟨(p1 0).N,1,none⟩)),.l 11 (.agg #[.slice a n c]) 0 1,.c (some 12) (cV (.bool false))]) (fun p2=>[(1,.int .i64 0),(2,.pointer (some ⟨(p1 0).N,0,none⟩)),(4,.pointer (some ⟨(p1 1).N,0,none⟩)),(5,.int .i64 0),(12,.bool false)]) (by kernel_rfl) (fun _ _=>by kernel_rfl) (fun _=>by kernel_rfl) (fun _=>by kernel_rfl) (fun p2=>?_) (fun p2 W2 T hF hK=>?_)
 ·refine ok_v (by kernel_rfl) ?_
  refine ok_L (by kernel_rfl) (by kernel_rfl) (by kernel_rfl) ?_
  refine ok_c (fun W cx=>as_v (snought a _ c _ _ (Num.noz (cx.G.1) hx))) (by kernel_rfl) ?_
  exact ok_nil
 replace hS:=SymF.fb hS hF [0,1] [⟨(p1 0).N,#[.bool s,.slice a n c,.slice b k l],27,true⟩,⟨(p1 1).N,#[.bool false,.slice none 0 0,.int .i64 0],91,true⟩] (by kernel_rfl) (by kernel_rfl)
 replace hG:=hF.gx
 clear hF
 have z2:=hS.fr.size
 refine wp_cond_false (hK.ev 12 (by kernel_rfl) _ (by kernel_rfl)) ?_
 refine wp_skip ?_
 refine then_n ?_
 refine wp_symQ hS hG hK (fun p3=>[.n 6 #[.int .i64 0] 114]) (fun p3=>[(1,.int .i64 0),(2,.pointer (some ⟨(p1 0).N,0,none⟩)),(4,.pointer (some ⟨(p1 1).N,0,none⟩)),(5,.int .i64 0),(6,.pointer (some ⟨(p3 0).N,0,none⟩)),(12,.bool false)]) (by kernel_rfl) (fun _ _=>by kernel_rfl) (fun _=>by kernel_rfl) (fun _=>by kernel_rfl) (fun p3=>?_) (fun p3 W3 T hF hK=>?_)
 ·refine ok_n (fun _=>by kernel_rfl) ?_
  exact ok_nil
 replace hS:=SymF.fb hS hF [0,1,1000] [⟨(p1 0).N,#[.bool s,.slice a n c,.slice b k l],27,true⟩,⟨(p1 1).N,#[.bool false,.slice none 0 0,.int .i64 0],91,true⟩,⟨(p3 0).N,#[.int .i64 0],114,true⟩] (by kernel_rfl) (by kernel_rfl)
 replace hG:=hF.gx
 clear hF
 have z3:=hS.fr.size
 refine wp_symQ hS hG hK (fun p4=>[.l 14 (.agg #[.bool s,.slice a n c,.slice b k l]) 0 0,.v 15 (.int .i64 0),.c (some 16) (cV (.int .i64 sz)),.v 7 (.int .i64 sz)]) (fun p4=>[(1,.int .i64 0),(2,.pointer (some ⟨(p1 0).N,0,none⟩)),(4,.pointer (some ⟨(p1 1).N,0,none⟩)),(5,.int .i64 0),(6,.pointer (some ⟨(p3 0).N,0,none⟩)),(7,.int .i64 sz),(12,.bool false)]) (by kernel_rfl) (fun _ _=>by kernel_rfl) (fun _=>by kernel_rfl) (fun _=>by kernel_rfl) (fun p4=>?_) (fun p4 W4 T hF hK=>?_)
 ·refine ok_L (by kernel_rfl) (by kernel_rfl) (by kernel_rfl) ?_
  refine ok_v (by kernel_rfl) ?_
  refine ok_c (fun W cx=>as_v (ssize_is _ _ s a b n c k l x y i j sz ⟨_,_,cx.B 2 _ rfl (by kernel_rfl) (by kernel_rfl),rfl⟩ (cx.G.1) (cx.G.2.1) hi hj hz HB1 HB2)) (by kernel_rfl) ?_
  refine ok_v (by kernel_rfl) ?_
  exact ok_nil
 replace hS:=SymF.fb hS hF [0,1,2] [⟨(p1 0).N,#[.bool s,.slice a n c,.slice b k l],27,true⟩,⟨(p1 1).N,#[.bool false,.slice none 0 0,.int .i64 0],91,true⟩,⟨(p3 0).N,#[.int .i64 0],114,true⟩] (by kernel_rfl) (by kernel_rfl)
 replace hG:=hF.gx
 clear hF
 have z4:=hS.fr.size
 refine wp_seq ?_
 refine wp_symQ hS hG hK (fun p5=>[.v 17 (.int .i64 sz),.v 18 (.bool false),.v 19 (.bool false),.v 20 (.int .i64 sz),.v 21 (.bool false),.v 22 (.bool false)]) (fun p5=>[(1,.int .i64 0),(2,.pointer (some ⟨(p1 0).N,0,none⟩)),(4,.pointer (some ⟨(p1 1).N,0,none⟩)),(5,.int .i64 0),(6,.pointer (some ⟨(p3 0).N,0,none⟩)),(7,.int .i64 sz),(12,.bool false),(22,.bool false)]) (by kernel_rfl) (fun _ _=>by kernel_rfl) (fun _=>by kernel_rfl) (fun _=>by kernel_rfl) (fun p5=>?_) (fun p5 W5 T hF hK=>?_)
 ·refine ok_v (by kernel_rfl) ?_
  refine ok_vb (decide_eq_false (show ¬ sz > 4096 by omega)) (by kernel_rfl) ?_
  iterate 2 refine ok_v (by kernel_rfl) ?_
  refine ok_vb (decide_eq_false (show ¬ sz < -4096 by omega)) (by kernel_rfl) ?_
  refine ok_v (by kernel_rfl) ?_
  exact ok_nil
 replace hS:=SymF.fb hS hF [0,1,2] [⟨(p1 0).N,#[.bool s,.slice a n c,.slice b k l],27,true⟩,⟨(p1 1).N,#[.bool false,.slice none 0 0,.int .i64 0],91,true⟩,⟨(p3 0).N,#[.int .i64 0],114,true⟩] (by kernel_rfl) (by kernel_rfl)
 replace hG:=hF.gx
 clear hF
 have z5:=hS.fr.size
 refine wp_cond_false (hK.ev 22 (by kernel_rfl) _ (by kernel_rfl)) ?_
 refine wp_skip ?_
 refine then_n ?_
 refine wp_symQ hS hG hK (fun p6=>[.l 31 (.agg #[.bool s,.slice a n c,.slice b k l]) 0 0,.v 32 (.int .i64 0),.c (some 33) (cH W5.heap.size 1 1 fun x9 y9=>.agg #[.slice a n c,x9,.slice b k l,y9,.int .i64 0]),.c (some 34) (cG W5.heap.size v fun x9=>.tuple #[.agg #[x9],.int .i64 e]),.v 30 (.tuple #[.agg #[.slice (p6 3).A (p6 3).N (p6 3).C],.int .i64 e]),.v 35 (.agg #[.slice (p6 3).A (p6 3).N (p6 3).C]),.v 36 (.int .i64 e),.n 8 #[.slice none 0 0] 25,.p 1007 0 [.slice (p6 3).A (p6 3).N (p6 3).C],.v 9 (.int .i64 e)]) (fun p6=>[(2,.pointer (some ⟨(p1 0).N,0,none⟩)),(4,.pointer (some ⟨(p1 1).N,0,none⟩)),(5,.int .i64 0),(6,.pointer (some ⟨(p3 0).N,0,none⟩)),(7,.int .i64 sz),(8,.pointer (some ⟨(p6 7).N,0,none⟩)),(9,.int .i64 e),(12,.bool false),(22,.bool false)]) (by kernel_rfl) (fun _ _=>by kernel_rfl) (fun _=>by kernel_rfl) (fun _=>by kernel_rfl) (fun p6=>?_) (fun p6 W6 T hF hK=>?_)
 ·refine ok_L (by kernel_rfl) (by kernel_rfl) (by kernel_rfl) ?_
  refine ok_v (by kernel_rfl) ?_
  refine ok_c (fun W cx=>as_h cx.hb (sscal_is _ _ s a b n c k l x y ⟨_,_,cx.B 2 _ rfl (by kernel_rfl) (by kernel_rfl),rfl⟩ (cx.G.1) (cx.G.2.1) HP)) (by kernel_rfl) ?_
  refine ok_c (fun W cx=>as_g cx.hb (unhide HF _ _ _ _ (p6 2).C _ _ (p6 2).C' ⟨_,_,cx.B 2 _ rfl (by kernel_rfl) (by kernel_rfl),rfl⟩ (cx.G.1) (Mine.num (And.left (cx.F 2 (by kernel_rfl)))) (cx.G.2.1) (Mine.num (And.right (cx.F 2 (by kernel_rfl)))))) (by kernel_rfl) ?_
  iterate 3 refine ok_v (by kernel_rfl) ?_
  refine ok_n (fun _=>by kernel_rfl) ?_
  refine ok_P (by kernel_rfl) (by kernel_rfl) (by kernel_rfl) ?_
  refine ok_v (by kernel_rfl) ?_
  exact ok_nil
 replace hS:=SymF.fb hS hF [0,1,2,1007] [⟨(p1 0).N,#[.bool s,.slice a n c,.slice b k l],27,true⟩,⟨(p1 1).N,#[.bool false,.slice none 0 0,.int .i64 0],91,true⟩,⟨(p3 0).N,#[.int .i64 0],114,true⟩,⟨(p6 7).N,#[.slice (p6 3).A (p6 3).N (p6 3).C],25,true⟩] (by kernel_rfl) (by kernel_rfl)
 replace hG:GsAt (gM W5.heap.size (p6 2).A (p6 2).N (p6 2).C 1 :: gM W5.heap.size (p6 2).A' (p6 2).N' (p6 2).C' 1 :: gM W5.heap.size (p6 3).A (p6 3).N (p6 3).C v :: _) W6:=⟨And.left (hF.fx 2),And.right (hF.fx 2),hF.fx 3,hF.gx⟩
 clear hF
 have z6:=hS.fr.size
 refine wp_seq ?_
 refine wp_symQ hS hG hK (fun p7=>[.v 37 (.pointer (some ⟨(p3 0).N,0,none⟩)),.v 38 (.pointer (some ⟨(p3 0).N,0,none⟩)),.l 39 (.int .i64 0) 2 0,.v 40 (.bool false)]) (fun p7=>[(2,.pointer (some ⟨(p1 0).N,0,none⟩)),(4,.pointer (some ⟨(p1 1).N,0,none⟩)),(5,.int .i64 0),(6,.pointer (some ⟨(p3 0).N,0,none⟩)),(7,.int .i64 sz),(8,.pointer (some ⟨(p6 7).N,0,none⟩)),(9,.int .i64 e),(12,.bool false),(22,.bool false),(40,.bool false)]) (by kernel_rfl) (fun _ _=>by kernel_rfl) (fun _=>by kernel_rfl) (fun _=>by kernel_rfl) (fun p7=>?_) (fun p7 W7 T hF hK=>?_)
 ·iterate 2 refine ok_v (by kernel_rfl) ?_
  refine ok_L (by kernel_rfl) (by kernel_rfl) (by kernel_rfl) ?_
  refine ok_v (by kernel_rfl) ?_
  exact ok_nil
 replace hS:=SymF.fb hS hF [0,1,2,3] [⟨(p1 0).N,#[.bool s,.slice a n c,.slice b k l],27,true⟩,⟨(p1 1).N,#[.bool false,.slice none 0 0,.int .i64 0],91,true⟩,⟨(p3 0).N,#[.int .i64 0],114,true⟩,⟨(p6 7).N,#[.slice (p6 3).A (p6 3).N (p6 3).C],25,true⟩] (by kernel_rfl) (by kernel_rfl)
 replace hG:=hF.gx
 clear hF
 have z7:=hS.fr.size
 refine wp_cond_false (hK.ev 40 (by kernel_rfl) _ (by kernel_rfl)) ?_
 refine wp_skip ?_
 refine then_n ?_
 refine wp_symQ hS hG hK (fun p8=>[.v 45 (.pointer (some ⟨(p1 0).N,0,none⟩)),.l 46 (.bool s) 0 0,.l 47 (.agg #[.slice (p6 3).A (p6 3).N (p6 3).C]) 3 0,.v 48 (.int .i64 e),.c (some 49) (cG W7.heap.size M fun x9=>.tuple #[.agg #[.bool s,x9,.int .i64 X],.int .i64 0]),.v 50 (.agg #[.bool s,.slice (p8 4).A (p8 4).N (p8 4).C,.int .i64 X]),.v 51 (.int .i64 0),.p 1 0 [.bool s,.slice (p8 4).A (p8 4).N (p8 4).C,.int .i64 X],.v 5 (.int .i64 0)]) (fun p8=>[(2,.pointer (some ⟨(p1 0).N,0,none⟩)),(4,.pointer (some ⟨(p1 1).N,0,none⟩)),(5,.int .i64 0),(6,.pointer (some ⟨(p3 0).N,0,none⟩)),(7,.int .i64 sz),(12,.bool false),(22,.bool false),(40,.bool false)]) (by kernel_rfl) (fun _ _=>by kernel_rfl) (fun _=>by kernel_rfl) (fun _=>by kernel_rfl) (fun p8=>?_) (fun p8 W8 T hF hK=>?_)
 ·refine ok_v (by kernel_rfl) ?_
  iterate 2 refine ok_L (by kernel_rfl) (by kernel_rfl) (by kernel_rfl) ?_
  refine ok_v (by kernel_rfl) ?_
  refine ok_c (fun W cx=>as_g cx.hb (unhide HK _ _ _ _ _ (hT.kept cx.fr) cx.G.2.2.1)) (by kernel_rfl) ?_
  iterate 2 refine ok_v (by kernel_rfl) ?_
  refine ok_P (by kernel_rfl) (by kernel_rfl) (by kernel_rfl) ?_
  refine ok_v (by kernel_rfl) ?_
  exact ok_nil
 replace hS:=SymF.fb hS hF [0,1,2] [⟨(p1 0).N,#[.bool s,.slice a n c,.slice b k l],27,true⟩,⟨(p1 1).N,#[.bool s,.slice (p8 4).A (p8 4).N (p8 4).C,.int .i64 X],91,true⟩,⟨(p3 0).N,#[.int .i64 0],114,true⟩] (by kernel_rfl) (by kernel_rfl)
 replace hG:GsAt (gM W7.heap.size (p8 4).A (p8 4).N (p8 4).C M :: _) W8:=⟨hF.fx 4,hF.gx⟩
 clear hF
 have z8:=hS.fr.size
 refine wp_ret ?_
 exact sym_end hS hK (.tuple #[.agg #[.bool s,.slice (p8 4).A (p8 4).N (p8 4).C,.int .i64 X],.int .i64 0]) [(1,0,3)] [.bool s,.slice (p8 4).A (p8 4).N (p8 4).C,.int .i64 X] (by kernel_rfl) (by kernel_rfl) ⟨⟨_,_,_,rfl,Mine.mono hG.1 z7⟩,hS.fr⟩
theorem sscaled_is (w:World) (E F md:Nat) (s ng:Bool) (a b:Option Addr) (n c k l x y:Nat) (X:Int) (M bt fl:Nat) (hfo:Fo E F) (hm:md≤4) (hT:Tb w) (h1:Num w a n x) (h2:Num w b k y) (HC:Hid (∀ W:World,Num W a n x→Num W b k y→Calls Tryz.prog 22 #[.agg #[.bool s,.slice a n c,.slice b k l]] W fun e W'=>e = .returned (.int .i64 0)∧Below W.heap.size W W')) (HD:Hid (∀ W:World,Tb W→Num W a n x→Num W b k y→Calls Tryz.prog 46 #[.agg #[.bool s,.slice a n c,.slice b k l],.int .i64 0] W fun en W'=>(∃ A N C,en = .returned (.tuple #[.agg #[.bool s,.slice A N C,.int .i64 X],.int .i64 0])∧Mine W' W.heap.size A N C M)∧Below W.heap.size W W')) (HR:Hid (∀ (W:World) (B:Nat) (A:Option Addr) (N C:Nat),Mine W B A N C M→Calls Tryz.prog 47 #[.agg #[.int .i64 E,.int .i64 F],.agg #[.bool s,.slice A N C,.int .i64 X],.bool ng,.int .u8 (md:Int)] W fun e W'=>e = .returned (.tuple #[.int .u64 (bt:Int),.int .u8 (fl:Int),.int .i64 0])∧Below W.heap.size W W')) :
  Calls Tryz.prog 18 #[.agg #[.int .i64 (E:Int),.int .i64 (F:Int)],.agg #[.bool s,.slice a n c,.slice b k l],.int .i64 0,.bool ng,.int .u8 (md:Int)] w fun en w'=>en = .returned (.tuple #[.int .u64 (bt:Int),.int .u8 (fl:Int),.int .i64 0])∧Below w.heap.size w w':=by
 refine calls_sym Tryz.func18 rfl (by kernel_rfl) fun T hK=>?_
 replace hK:Kn T _ [(0,.agg #[.int .i64 (E:Int),.int .i64 (F:Int)]),(1,.agg #[.bool s,.slice a n c,.slice b k l]),(2,.int .i64 0),(3,.bool ng),(4,.int .u8 (md:Int))]:=hK
 have hS:=Fb.begin w
 have hG:GsAt [gN a n x,gN b k y] w:=⟨h1,h2,trivial⟩
 refine wp_symQ hS hG hK (fun p1=>[.n 5 #[.int .i64 (E:Int),.int .i64 (F:Int)] 33,.n 6 #[.bool s,.slice a n c,.slice b k l] 27,.v 10 (.int .u64 0),.v 11 (.int .u8 0),.v 12 (.int .i64 0)]) (fun p1=>[(2,.int .i64 0),(3,.bool ng),(4,.int .u8 (md:Int)),(5,.pointer (some ⟨(p1 0).N,0,none⟩)),(6,.pointer (some ⟨(p1 1).N,0,none⟩)),(10,.int .u64 0),(11,.int .u8 0),(12,.int .i64 0)]) (by kernel_rfl) (fun _ _=>by kernel_rfl) (fun _=>by kernel_rfl) (fun _=>by kernel_rfl) (fun p1=>?_) (fun p1 W1 T hF hK=>?_)
 ·iterate 2 refine ok_n (fun _=>by kernel_rfl) ?_
  iterate 3 refine ok_v (by kernel_rfl) ?_
  exact ok_nil
 replace hS:=SymF.fb hS hF [1000,1001] [⟨(p1 0).N,#[.int .i64 (E:Int),.int .i64 (F:Int)],33,true⟩,⟨(p1 1).N,#[.bool s,.slice a n c,.slice b k l],27,true⟩] (by kernel_rfl) (by kernel_rfl)
 replace hG:=hF.gx
 clear hF
 have z1:=hS.fr.size
 refine wp_seq ?_
 refine wp_symQ hS hG hK (fun p2=>[.l 17 (.agg #[.int .i64 (E:Int),.int .i64 (F:Int)]) 0 0,.c (some 18) (cV (.int .i64 0)),.v 13 (.int .i64 0)]) (fun p2=>[(2,.int .i64 0),(3,.bool ng),(4,.int .u8 (md:Int)),(5,.pointer (some ⟨(p1 0).N,0,none⟩)),(6,.pointer (some ⟨(p1 1).N,0,none⟩)),(10,.int .u64 0),(11,.int .u8 0),(12,.int .i64 0),(13,.int .i64 0)]) (by kernel_rfl) (fun _ _=>by kernel_rfl) (fun _=>by kernel_rfl) (fun _=>by kernel_rfl) (fun p2=>?_) (fun p2 W2 T hF hK=>?_)
 ·refine ok_L (by kernel_rfl) (by kernel_rfl) (by kernel_rfl) ?_
  refine ok_c (fun W cx=>as_v (check_ok _ _ _ hfo)) (by kernel_rfl) ?_
  refine ok_v (by kernel_rfl) ?_
  exact ok_nil
 replace hS:=SymF.fb hS hF [0,1] [⟨(p1 0).N,#[.int .i64 (E:Int),.int .i64 (F:Int)],33,true⟩,⟨(p1 1).N,#[.bool s,.slice a n c,.slice b k l],27,true⟩] (by kernel_rfl) (by kernel_rfl)
 replace hG:=hF.gx
 clear hF
 have z2:=hS.fr.size
 refine wp_symQ hS hG hK (fun p3=>[.v 19 (.int .i64 0),.v 20 (.bool false)]) (fun p3=>[(2,.int .i64 0),(3,.bool ng),(4,.int .u8 (md:Int)),(5,.pointer (some ⟨(p1 0).N,0,none⟩)),(6,.pointer (some ⟨(p1 1).N,0,none⟩)),(10,.int .u64 0),(11,.int .u8 0),(12,.int .i64 0),(13,.int .i64 0),(20,.bool false)]) (by kernel_rfl) (fun _ _=>by kernel_rfl) (fun _=>by kernel_rfl) (fun _=>by kernel_rfl) (fun p3=>?_) (fun p3 W3 T hF hK=>?_)
 ·iterate 2 refine ok_v (by kernel_rfl) ?_
  exact ok_nil
 replace hS:=SymF.fb hS hF [0,1] [⟨(p1 0).N,#[.int .i64 (E:Int),.int .i64 (F:Int)],33,true⟩,⟨(p1 1).N,#[.bool s,.slice a n c,.slice b k l],27,true⟩] (by kernel_rfl) (by kernel_rfl)
 replace hG:=hF.gx
 clear hF
 have z3:=hS.fr.size
 refine wp_cond_false (hK.ev 20 (by kernel_rfl) _ (by kernel_rfl)) ?_
 refine wp_skip ?_
 refine then_n ?_
 refine wp_seq ?_
 refine wp_symQ hS hG hK (fun p4=>[.l 22 (.agg #[.bool s,.slice a n c,.slice b k l]) 1 0,.v 23 (.int .u8 (md:Int)),.c (some 24) (cV (.int .i64 0)),.v 14 (.int .i64 0)]) (fun p4=>[(2,.int .i64 0),(3,.bool ng),(4,.int .u8 (md:Int)),(5,.pointer (some ⟨(p1 0).N,0,none⟩)),(6,.pointer (some ⟨(p1 1).N,0,none⟩)),(10,.int .u64 0),(11,.int .u8 0),(12,.int .i64 0),(13,.int .i64 0),(14,.int .i64 0),(20,.bool false)]) (by kernel_rfl) (fun _ _=>by kernel_rfl) (fun _=>by kernel_rfl) (fun _=>by kernel_rfl) (fun p4=>?_) (fun p4 W4 T hF hK=>?_)
 ·refine ok_L (by kernel_rfl) (by kernel_rfl) (by kernel_rfl) ?_
  refine ok_v (by kernel_rfl) ?_
  refine ok_c (fun W cx=>as_v (tcheckF_ok s a n c b k l md hm _ (hide fun W9 hb9=>unhide HC W9 (Num.kept (cx.G.1) hb9) (Num.kept (cx.G.2.1) hb9)))) (by kernel_rfl) ?_
  refine ok_v (by kernel_rfl) ?_
  exact ok_nil
 replace hS:=SymF.fb hS hF [0,1] [⟨(p1 0).N,#[.int .i64 (E:Int),.int .i64 (F:Int)],33,true⟩,⟨(p1 1).N,#[.bool s,.slice a n c,.slice b k l],27,true⟩] (by kernel_rfl) (by kernel_rfl)
 replace hG:=hF.gx
 clear hF
 have z4:=hS.fr.size
 refine wp_symQ hS hG hK (fun p5=>[.v 25 (.int .i64 0),.v 26 (.bool false)]) (fun p5=>[(2,.int .i64 0),(3,.bool ng),(4,.int .u8 (md:Int)),(5,.pointer (some ⟨(p1 0).N,0,none⟩)),(6,.pointer (some ⟨(p1 1).N,0,none⟩)),(10,.int .u64 0),(11,.int .u8 0),(12,.int .i64 0),(13,.int .i64 0),(14,.int .i64 0),(20,.bool false),(26,.bool false)]) (by kernel_rfl) (fun _ _=>by kernel_rfl) (fun _=>by kernel_rfl) (fun _=>by kernel_rfl) (fun p5=>?_) (fun p5 W5 T hF hK=>?_)
 ·iterate 2 refine ok_v (by kernel_rfl) ?_
  exact ok_nil
 replace hS:=SymF.fb hS hF [0,1] [⟨(p1 0).N,#[.int .i64 (E:Int),.int .i64 (F:Int)],33,true⟩,⟨(p1 1).N,#[.bool s,.slice a n c,.slice b k l],27,true⟩] (by kernel_rfl) (by kernel_rfl)
 replace hG:=hF.gx
 clear hF
 have z5:=hS.fr.size
 refine wp_cond_false (hK.ev 26 (by kernel_rfl) _ (by kernel_rfl)) ?_
 refine wp_skip ?_
 refine then_n ?_
 refine wp_symQ hS hG hK (fun p6=>[.l 29 (.agg #[.bool s,.slice a n c,.slice b k l]) 1 0,.v 30 (.int .i64 0),.c (some 31) (cG W5.heap.size M fun x9=>.tuple #[.agg #[.bool s,x9,.int .i64 X],.int .i64 0]),.v 28 (.tuple #[.agg #[.bool s,.slice (p6 2).A (p6 2).N (p6 2).C,.int .i64 X],.int .i64 0]),.v 32 (.agg #[.bool s,.slice (p6 2).A (p6 2).N (p6 2).C,.int .i64 X]),.v 33 (.int .i64 0),.n 15 #[.bool false,.slice none 0 0,.int .i64 0] 91,.p 1006 0 [.bool s,.slice (p6 2).A (p6 2).N (p6 2).C,.int .i64 X],.v 16 (.int .i64 0)]) (fun p6=>[(3,.bool ng),(4,.int .u8 (md:Int)),(5,.pointer (some ⟨(p1 0).N,0,none⟩)),(10,.int .u64 0),(11,.int .u8 0),(12,.int .i64 0),(13,.int .i64 0),(14,.int .i64 0),(15,.pointer (some ⟨(p6 6).N,0,none⟩)),(16,.int .i64 0),(20,.bool false),(26,.bool false)]) (by kernel_rfl) (fun _ _=>by kernel_rfl) (fun _=>by kernel_rfl) (fun _=>by kernel_rfl) (fun p6=>?_) (fun p6 W6 T hF hK=>?_)
 ·refine ok_L (by kernel_rfl) (by kernel_rfl) (by kernel_rfl) ?_
  refine ok_v (by kernel_rfl) ?_
  refine ok_c (fun W cx=>as_g cx.hb (unhide HD _ (hT.kept cx.fr) (cx.G.1) (cx.G.2.1))) (by kernel_rfl) ?_
  iterate 3 refine ok_v (by kernel_rfl) ?_
  refine ok_n (fun _=>by kernel_rfl) ?_
  refine ok_P (by kernel_rfl) (by kernel_rfl) (by kernel_rfl) ?_
  refine ok_v (by kernel_rfl) ?_
  exact ok_nil
 replace hS:=SymF.fb hS hF [0,1006] [⟨(p1 0).N,#[.int .i64 (E:Int),.int .i64 (F:Int)],33,true⟩,⟨(p6 6).N,#[.bool s,.slice (p6 2).A (p6 2).N (p6 2).C,.int .i64 X],91,true⟩] (by kernel_rfl) (by kernel_rfl)
 replace hG:GsAt (gM W5.heap.size (p6 2).A (p6 2).N (p6 2).C M :: _) W6:=⟨hF.fx 2,hF.gx⟩
 clear hF
 have z6:=hS.fr.size
 refine wp_seq ?_
 refine wp_symQ hS hG hK (fun p7=>[.v 34 (.int .i64 0),.v 35 (.bool false)]) (fun p7=>[(3,.bool ng),(4,.int .u8 (md:Int)),(5,.pointer (some ⟨(p1 0).N,0,none⟩)),(10,.int .u64 0),(11,.int .u8 0),(12,.int .i64 0),(13,.int .i64 0),(14,.int .i64 0),(15,.pointer (some ⟨(p6 6).N,0,none⟩)),(16,.int .i64 0),(20,.bool false),(26,.bool false),(35,.bool false)]) (by kernel_rfl) (fun _ _=>by kernel_rfl) (fun _=>by kernel_rfl) (fun _=>by kernel_rfl) (fun p7=>?_) (fun p7 W7 T hF hK=>?_)
 ·iterate 2 refine ok_v (by kernel_rfl) ?_
  exact ok_nil
 replace hS:=SymF.fb hS hF [0,1] [⟨(p1 0).N,#[.int .i64 (E:Int),.int .i64 (F:Int)],33,true⟩,⟨(p6 6).N,#[.bool s,.slice (p6 2).A (p6 2).N (p6 2).C,.int .i64 X],91,true⟩] (by kernel_rfl) (by kernel_rfl)
 replace hG:=hF.gx
 clear hF
 have z7:=hS.fr.size
 refine wp_cond_false (hK.ev 35 (by kernel_rfl) _ (by kernel_rfl)) ?_
 refine wp_skip ?_
 refine then_n ?_
 refine wp_symQ hS hG hK (fun p8=>[.l 37 (.agg #[.int .i64 (E:Int),.int .i64 (F:Int)]) 0 0,.l 38 (.agg #[.bool s,.slice (p6 2).A (p6 2).N (p6 2).C,.int .i64 X]) 1 0,.v 39 (.bool ng),.v 40 (.int .u8 (md:Int)),.c (some 41) (cV (.tuple #[.int .u64 (bt:Int),.int .u8 (fl:Int),.int .i64 0])),.v 42 (.int .u64 (bt:Int)),.v 43 (.int .u8 (fl:Int)),.v 44 (.int .i64 0),.v 10 (.int .u64 (bt:Int)),.v 11 (.int .u8 (fl:Int)),.v 12 (.int .i64 0)]) (fun p8=>[(10,.int .u64 (bt:Int)),(11,.int .u8 (fl:Int)),(12,.int .i64 0),(13,.int .i64 0),(14,.int .i64 0),(16,.int .i64 0),(20,.bool false),(26,.bool false),(35,.bool false)]) (by kernel_rfl) (fun _ _=>by kernel_rfl) (fun _=>by kernel_rfl) (fun _=>by kernel_rfl) (fun p8=>?_) (fun p8 W8 T hF hK=>?_)
 ·iterate 2 refine ok_L (by kernel_rfl) (by kernel_rfl) (by kernel_rfl) ?_
  iterate 2 refine ok_v (by kernel_rfl) ?_
  refine ok_c (fun W cx=>as_v (unhide HR _ _ _ _ _ cx.G.1)) (by kernel_rfl) ?_
  iterate 6 refine ok_v (by kernel_rfl) ?_
  exact ok_nil
 replace hS:=SymF.fb hS hF [] [] (by kernel_rfl) (by kernel_rfl)
 replace hG:=hF.gx
 clear hF
 have z8:=hS.fr.size
 refine wp_ret ?_
 exact sym_end hS hK (.tuple #[.int .u64 (bt:Int),.int .u8 (fl:Int),.int .i64 0]) [] [] (by kernel_rfl) (by kernel_rfl) ⟨rfl,hS.fr⟩
theorem sratio_w (w:World) (E F md:Nat) (s ng:Bool) (a b:Option Addr) (n c k l x y bt fl:Nat) (h1:Num w a n x) (h2:Num w b k y) (HR:Hid (∀ W:World,Below w.heap.size w W→Num W a n x→Num W b k y→Calls Tryz.prog 18 #[.agg #[.int .i64 E,.int .i64 F],.agg #[.bool s,.slice a n c,.slice b k l],.int .i64 0,.bool ng,.int .u8 (md:Int)] W fun e W'=>e = .returned (.tuple #[.int .u64 (bt:Int),.int .u8 (fl:Int),.int .i64 0])∧Below W.heap.size W W')) :
  Calls Tryz.prog 8 #[.agg #[.int .i64 (E:Int),.int .i64 (F:Int)],.agg #[.bool s,.slice a n c,.slice b k l],.bool ng,.int .u8 (md:Int)] w fun en w'=>en = .returned (.tuple #[.int .u64 (bt:Int),.int .u8 (fl:Int),.int .i64 0])∧Below w.heap.size w w':=by
 refine calls_sym Tryz.func8 rfl (by kernel_rfl) fun T hK=>?_
 replace hK:Kn T _ [(0,.agg #[.int .i64 (E:Int),.int .i64 (F:Int)]),(1,.agg #[.bool s,.slice a n c,.slice b k l]),(2,.bool ng),(3,.int .u8 (md:Int))]:=hK
 have hS:=Fb.begin w
 have hG:GsAt [gN a n x,gN b k y] w:=⟨h1,h2,trivial⟩
 refine wp_symQ hS hG hK (fun p1=>[.n 4 #[.int .i64 (E:Int),.int .i64 (F:Int)] 33,.n 5 #[.bool s,.slice a n c,.slice b k l] 27,.v 8 (.int .u64 0),.v 9 (.int .u8 0),.v 10 (.int .i64 0)]) (fun p1=>[(2,.bool ng),(3,.int .u8 (md:Int)),(4,.pointer (some ⟨(p1 0).N,0,none⟩)),(5,.pointer (some ⟨(p1 1).N,0,none⟩)),(8,.int .u64 0),(9,.int .u8 0),(10,.int .i64 0)]) (by kernel_rfl) (fun _ _=>by kernel_rfl) (fun _=>by kernel_rfl) (fun _=>by kernel_rfl) (fun p1=>?_) (fun p1 W1 T hF hK=>?_)
 ·iterate 2 refine ok_n (fun _=>by kernel_rfl) ?_
  iterate 3 refine ok_v (by kernel_rfl) ?_
  exact ok_nil
 replace hS:=SymF.fb hS hF [1000,1001] [⟨(p1 0).N,#[.int .i64 (E:Int),.int .i64 (F:Int)],33,true⟩,⟨(p1 1).N,#[.bool s,.slice a n c,.slice b k l],27,true⟩] (by kernel_rfl) (by kernel_rfl)
 replace hG:=hF.gx
 clear hF
 have z1:=hS.fr.size
 refine wp_symQ hS hG hK (fun p2=>[.l 11 (.agg #[.int .i64 (E:Int),.int .i64 (F:Int)]) 0 0,.l 12 (.agg #[.bool s,.slice a n c,.slice b k l]) 1 0,.v 13 (.bool ng),.v 14 (.int .u8 (md:Int)),.c (some 15) (cV (.tuple #[.int .u64 (bt:Int),.int .u8 (fl:Int),.int .i64 0])),.v 16 (.int .u64 (bt:Int)),.v 17 (.int .u8 (fl:Int)),.v 18 (.int .i64 0),.v 8 (.int .u64 (bt:Int)),.v 9 (.int .u8 (fl:Int)),.v 10 (.int .i64 0)]) (fun p2=>[(8,.int .u64 (bt:Int)),(9,.int .u8 (fl:Int)),(10,.int .i64 0)]) (by kernel_rfl) (fun _ _=>by kernel_rfl) (fun _=>by kernel_rfl) (fun _=>by kernel_rfl) (fun p2=>?_) (fun p2 W2 T hF hK=>?_)
 ·iterate 2 refine ok_L (by kernel_rfl) (by kernel_rfl) (by kernel_rfl) ?_
  iterate 2 refine ok_v (by kernel_rfl) ?_
  refine ok_c (fun W cx=>as_v (unhide HR _ cx.fr (cx.G.1) (cx.G.2.1))) (by kernel_rfl) ?_
  iterate 6 refine ok_v (by kernel_rfl) ?_
  exact ok_nil
 replace hS:=SymF.fb hS hF [] [] (by kernel_rfl) (by kernel_rfl)
 replace hG:=hF.gx
 clear hF
 have z2:=hS.fr.size
 refine wp_ret ?_
 exact sym_end hS hK (.tuple #[.int .u64 (bt:Int),.int .u8 (fl:Int),.int .i64 0]) [] [] (by kernel_rfl) (by kernel_rfl) ⟨rfl,hS.fr⟩
theorem no_over {m K:Nat} (h:m < 2 ^ K) (hK:K≤524288):¬ Over m:=not_over h hK
theorem ans_ok {w:World} {base:Nat} {e:Ending} {m:Nat} (h:Ans w base e m) (hn:¬ Over m):∃ a n cap,e = .returned (.tuple #[.agg #[.slice a n cap],.int .i64 0])∧Mine w base a n cap m:=by
 rcases h with h|⟨_,h⟩
 ·exact h
 ·exact absurd h hn
theorem hbits (m:Nat):HBits m (blen m):=fun W A N C h=>(bits_any A N C m W h).mono fun e W' ⟨⟨k,h1,h2,_⟩,hb⟩=>⟨by rw [h1,h2.uniq (bl_blen m)],hb⟩
theorem hup {m k:Nat} (hk:k < 9223372036854775808) (ho:¬ Over (m * 2 ^ k)):HUp m k (m * 2 ^ k):=fun W A N C h=>(up_any A N C m k W h hk).mono fun _ _ ⟨h1,hb⟩=>⟨ans_ok h1 ho,hb⟩
theorem hmul {x y:Nat} (ho:¬ Over (x * y)):HTwo 82 x y (x * y):=fun W a n c a' n' c' h h'=>(mul_any a a' n n' c c' x y W h h').mono fun _ _ ⟨h1,hb⟩=>⟨ans_ok h1 ho,hb⟩
theorem hadd {x y:Nat} (ho:¬ Over (x+y)):HTwo 39 x y (x+y):=fun W a n c a' n' c' h h'=>(add_any a a' n n' c c' x y W h h').mono fun _ _ ⟨h1,hb⟩=>⟨ans_ok h1 ho,hb⟩
theorem hdiv {x d:Nat} (hd:0 < d):HDiv x d (x / d) (x % d):=fun W a n c a' n' c' h h'=>div_pos a a' n n' c c' x d W h h' hd
theorem hpow0:HPow0:=fun W=>by
 have:=pow_any 5 0 W (by omega) (by omega)
 exact this.mono fun _ _ ⟨h1,hb⟩=>⟨ans_ok h1 (no_over (K:=1) (by decide) (by omega)),hb⟩
def sLift (m d:Nat):Nat:=blen d - blen m
def sOne (m d:Nat):Nat:=m * 2 ^ sLift m d
def sMore (m d:Nat):Nat:=65+blen d - blen (sOne m d)
def sAll (m d:Nat):Nat:=sOne m d * 2 ^ sMore m d
def sAns (m d:Nat):Nat:=if sAll m d % d = 0 then 2 * (sAll m d / d) else 2 * (sAll m d / d)+1
def sExp (m d:Nat):Int:=-(sLift m d:Int) - (sMore m d:Int) - 1
theorem blen_lt {m K:Nat} (h:blen m≤K):m < 2 ^ K:=Nat.lt_of_lt_of_le (bl_blen m).1 (Nat.pow_le_pow_right (by omega) h)
theorem blen_one:blen 1 = 1:=by decide
theorem parts_div {t d f:Nat} (hd:0 < d):t / d * f+t % d * f / d = t * f / d∧t % d * f % d = t * f % d:=by
 have h:=Nat.div_add_mod t d
 have h1:t * f = t % d * f+d * (t / d * f):=by
  conv=>lhs; rw [← h]
  rw [Nat.add_mul,Nat.mul_assoc]; omega
 rw [h1]
 exact ⟨by rw [Nat.add_mul_div_left _ _ hd]; omega,by rw [Nat.add_mul_mod_self_left]⟩
theorem sfirst_any (W:World) (p:Nat) (a1 a2 a3 a4:Option Addr) (n1 n2 n3 n4 c1 c2 c3 c4 m d:Nat) (hk:Rn W p 0) (h1:Num W a1 n1 m) (h2:Num W a2 n2 1) (h3:Num W a3 n3 d) (h4:Num W a4 n4 1) (hd:0 < d) (bm:blen m≤100000) (bd:blen d≤100000) (hr:blen d≤blen m+4096) :
  Calls Tryz.prog 68 #[.agg #[.slice a1 n1 c1,.slice a2 n2 c2,.slice a3 n3 c3,.slice a4 n4 c4,.int .i64 0],.pointer (some ⟨p,0,none⟩)] W fun en W'=>(∃ A N C,en = .returned (.tuple #[.agg #[.slice A N C],.int .i64 (sExp m d)])∧Mine W' W.heap.size A N C (sAns m d))∧Below W.heap.size W W':=by
 obtain ⟨lift,hlift⟩:∃ lift,sLift m d = lift:=⟨_,rfl⟩
 obtain ⟨t1,ht1⟩:∃ t1,sOne m d = t1:=⟨_,rfl⟩
 obtain ⟨more,hmore⟩:∃ more,sMore m d = more:=⟨_,rfl⟩
 have el:lift≤4096:=by rw [← hlift]; unfold sLift; omega
 have em:more≤100065:=by rw [← hmore]; unfold sMore; omega
 obtain ⟨K0,hK0⟩:∃ K,K = 100000:=⟨_,rfl⟩
 obtain ⟨K4,hK4⟩:∃ K,K = 4096:=⟨_,rfl⟩
 obtain ⟨K1,hK1⟩:∃ K,K = 104096:=⟨_,rfl⟩
 obtain ⟨K2,hK2⟩:∃ K,K = 100065:=⟨_,rfl⟩
 obtain ⟨K3,hK3⟩:∃ K,K = 204161:=⟨_,rfl⟩
 have b1:t1 < 2 ^ K1:=by
  rw [← ht1]; unfold sOne
  rw [hlift,show K1 = K0+K4 from by omega,Nat.pow_add]
  exact Nat.mul_lt_mul_of_lt_of_le (blen_lt (by omega)) (Nat.pow_le_pow_right (by omega) (by omega)) (Nat.pow_pos (by omega))
 have b2:2 ^ more≤2 ^ K2:=Nat.pow_le_pow_right (by omega) (by omega)
 have b3:t1 * 2 ^ more < 2 ^ K3:=by
  rw [show K3 = K1+K2 from by omega,Nat.pow_add]
  exact Nat.mul_lt_mul_of_lt_of_le b1 b2 (Nat.pow_pos (by omega))
 have hall:sAll m d = t1 * 2 ^ more:=by unfold sAll; rw [ht1,hmore]
 obtain ⟨e1,e2⟩:=parts_div (t:=t1) (f:=2 ^ more) hd
 have hq:t1 * 2 ^ more / d≤t1 * 2 ^ more:=Nat.div_le_self _ _
 have l1:t1 / d * 2 ^ more≤t1 * 2 ^ more / d:=by rw [← e1]; exact Nat.le_add_right _ _
 have l2:t1 % d * 2 ^ more≤t1 * 2 ^ more:=Nat.mul_le_mul_right _ (Nat.mod_le _ _)
 have i5:blen t1≤104096:=by have:=(bl_blen t1).le_of b1; omega
 have p0:2 ^ K3 * 2 = 2 ^ (K3+1):=(Nat.pow_succ ..).symm
 have lt9:∀ {v:Nat},v < 2 ^ K3 * 2→¬ Over v:=fun {v} h=>no_over (K:=K3+1) (by rw [← p0]; exact h) (by omega)
 obtain ⟨T,hT⟩:∃ T,2 ^ K3 = T:=⟨_,rfl⟩
 rw [hT] at b3 lt9
 have hT1:1 < T:=by rw [← hT]; exact Nat.one_lt_two_pow (by omega)
 clear p0 hT
 have key:=sfirst_is W p a1 a2 a3 a4 n1 n2 n3 n4 c1 c2 c3 c4 m 1 d 1 (blen m) 1 (blen d) 1 (blen t1) lift more t1 (2 ^ more) (t1 / d) (t1 % d) (t1 % d * 2 ^ more / d) (t1 / d * 2 ^ more) (t1 * 2 ^ more / d) (t1 * 2 ^ more / d) 0 (t1 * 2 ^ more / d * 2) (t1 * 2 ^ more / d * 2+1) 0 ((blen t1:Int) - (blen d:Int)) (!decide (t1 % d * 2 ^ more % d = 0)) (sAns m d) hk h1 h2 h3 h4 (by omega) (by omega) (by omega) (by omega) (by omega)
  (by rw [← hlift]; unfold sLift; omega) (by omega) (by rw [← hmore]; unfold sMore; rw [ht1]; omega) (by omega) (by omega) (by omega) (by omega)
  (hide (by
   rw [e2]
   unfold sAns
   rw [hall]
   by_cases hz:t1 * 2 ^ more % d = 0
   ·right; right
    rw [if_pos hz]
    exact ⟨by simp [hz],rfl,by omega⟩
   ·left
    rw [if_neg hz]
    exact ⟨by simp [hz],by omega⟩))
  (hide (hbits m)) (hide (by have:=hbits 1; rw [blen_one] at this; exact this)) (hide (hbits d)) (hide (by have:=hbits 1; rw [blen_one] at this; exact this)) (hide (hbits t1))
  (hide (by have:=hup (m:=m) (k:=lift) (by omega) (by rw [← hlift]; exact no_over (K:=K1) (by have:=b1; rw [← ht1] at this; exact this) (by omega)); rw [show m * 2 ^ lift = t1 from by rw [← ht1,← hlift]; rfl] at this; exact this))
  (hide (by have:=hup (m:=1) (k:=more) (by omega) (by rw [Nat.one_mul]; exact no_over (K:=K2+1) (Nat.lt_of_le_of_lt b2 (Nat.pow_lt_pow_right (by omega) (by omega))) (by omega)); rw [Nat.one_mul] at this; exact this))
  (hide (hdiv hd))
  (hide fun W a n c b k l d9 m9 e9 q1 q2 q3 q4=>sshare_is W p a b d9 n c k l m9 e9 (t1 % d) (2 ^ more) d (t1 % d * 2 ^ more) _ _ q1 q2 q3 q4 (hide (hmul (lt9 (by omega)))) (hide (hdiv hd)))
  (hide (hmul (lt9 (by omega)))) (hide (by have:=hadd (x:=t1 / d * 2 ^ more) (y:=t1 % d * 2 ^ more / d) (lt9 (by omega)); rw [e1] at this; exact this))
  (hide (by have:=hdiv (x:=t1 * 2 ^ more / d) (d:=1) (by omega); rw [Nat.div_one,Nat.mod_one] at this; exact this))
  (hide (by have:=hup (m:=t1 * 2 ^ more / d) (k:=1) (by omega) (lt9 (by rw [Nat.pow_one]; omega)); rw [Nat.pow_one] at this; exact this))
  (hide (hadd (lt9 (by omega))))
 have ee:(0:Int) - (lift:Int) - (more:Int) - 1 = sExp m d:=by unfold sExp; rw [hlift,hmore]; omega
 rw [ee] at key
 exact key
theorem sratio_is {E F S I B md:Nat} (h:Fm E F S I) (hB:B = 2 ^ (E - 1) - 1) (hm:md≤4) (ng s:Bool) (a b:Option Addr) (n c k l m d:Nat) (w:World) (hT:Tb w) (h1:Num w a n m) (h2:Num w b k d) (h0:m≠0) (hd:0 < d) (bm:blen m≤100000) (bd:blen d≤100000) (hr1:blen d≤blen m+4096) (hr2:blen m≤blen d+4096)
  (HC:Hid (∀ W:World,Num W a n m→Num W b k d→Calls Tryz.prog 22 #[.agg #[.bool s,.slice a n c,.slice b k l]] W fun e W'=>e = .returned (.int .i64 0)∧Below W.heap.size W W')) (z M K:Nat) (X:Int) (hz:Tz (sAns m d) z) (hz2:z≤300000) (hM:sAns m d / 2 ^ z = M) (hX:sExp m d+(z:Int) = X) (hK:Bl M K) :
  Calls Tryz.prog 8 #[.agg #[.int .i64 E,.int .i64 F],.agg #[.bool s,.slice a n c,.slice b k l],.bool ng,.int .u8 (md:Int)] w fun e w'=>e = .returned (.tuple #[.int .u64 (bitsR S I md s (rowR B F md s M K X):Int),.int .u8 (flagR B F I md s M K X:Int),.int .i64 0])∧Below w.heap.size w w':=by
 obtain ⟨q,hq⟩:=hz
 have hMq:M = 2 * q+1:=by rw [← hM,hq,Nat.mul_div_cancel_left _ (Nat.pow_pos (by omega))]
 have hX2:-204200≤sExp m d∧sExp m d≤0:=by unfold sExp sLift sMore; omega
 refine sratio_w w E F md s ng a b n c k l m d _ _ h1 h2 (hide fun W hb q1 q2=>?_)
 refine sscaled_is W E F md s ng a b n c k l m d X M _ _ h.fo hm (hT.kept hb) q1 q2 HC (hide fun W t9 r1 r2=>?_) (hide fun W B9 A N C g=>?_)
 ·refine sstand_is W s a b n c k l m d (blen m) (blen d) ((blen m:Int) - (blen d:Int)) (sExp m d) X (sAns m d) M t9 r1 r2 h0 (by omega) (by omega) rfl (by omega) (by omega) (hide (hbits m)) (hide (hbits d)) (hide hpow0) (hide fun W p A N C A' N' C' x1 x2 x3 x4 x5=>sfirst_any W p a A b A' n N k N' c C l C' m d x1 x2 x3 x4 x5 hd bm bd hr1) (hide fun W B9 A N C t8 g=>?_)
  obtain ⟨g1,g2⟩:=mine_caps g
  have:=make_ok s A N C (sAns m d) z (sExp m d) W g.num (by rw [hq]; exact Nat.mul_pos (Nat.pow_pos (by omega)) (by omega)) t8 ⟨q,hq⟩ (by omega) g1 g2 (by omega)
  rw [hM,hX] at this
  exact this
 ·exact rounded_any h hB hm ng s A N C M K X W B9 g ⟨by omega,by omega,by omega⟩ hK
def nmL (j:Nat):List UInt8:=match j with
 | 0=>[101,118,101,110]
 | 1=>[97,119,97,121]
 | 2=>[122,101,114,111]
 | 3=>[117,112]
 | _=>[100,111,119,110]
structure Nb5 (w:World):Prop where
 lt:0 < w.heap.size
 c0:w.cell? ⟨0,0,none⟩ = some (.string ⟨#[101,118,101,110]⟩)
 c1:w.cell? ⟨0,1,none⟩ = some (.string ⟨#[97,119,97,121]⟩)
 c2:w.cell? ⟨0,2,none⟩ = some (.string ⟨#[122,101,114,111]⟩)
 c3:w.cell? ⟨0,3,none⟩ = some (.string ⟨#[117,112]⟩)
 c4:w.cell? ⟨0,4,none⟩ = some (.string ⟨#[100,111,119,110]⟩)
theorem Nb5.kept {w w':World} (h:Nb5 w) (hb:Below w.heap.size w w'):Nb5 w':=
 ⟨Nat.lt_of_lt_of_le h.lt hb.size,(hb.cell (p:=⟨0,0,none⟩) h.lt).trans h.c0,(hb.cell (p:=⟨0,1,none⟩) h.lt).trans h.c1,(hb.cell (p:=⟨0,2,none⟩) h.lt).trans h.c2,(hb.cell (p:=⟨0,3,none⟩) h.lt).trans h.c3,(hb.cell (p:=⟨0,4,none⟩) h.lt).trans h.c4⟩
theorem named_1 (s:ByteArray) (w:World) (h:Nb5 w) (e0:(([101,118,101,110]:List UInt8) == s.toList) = false) (e1:(([97,119,97,121]:List UInt8) == s.toList) = true) :
  Calls Tryz.prog 11 #[.string s] w fun e w'=>e = .returned (.tuple #[.int .u8 1,.bool true])∧Below w.heap.size w w':=by
 obtain ⟨-,c0,c1,c2,c3,c4⟩:=h
 have x0:∀ v:World,(Instr.index 53 (.agg #[.string ⟨#[101,118,101,110]⟩,.string ⟨#[97,119,97,121]⟩,.string ⟨#[122,101,114,111]⟩,.string ⟨#[117,112]⟩,.string ⟨#[100,111,119,110]⟩]) (.int .i64 0)).run Tryz.prog v = .ok (.string ⟨#[101,118,101,110]⟩) v:=fun _=>by kernel_rfl
 have x1:∀ v:World,(Instr.index 53 (.agg #[.string ⟨#[101,118,101,110]⟩,.string ⟨#[97,119,97,121]⟩,.string ⟨#[122,101,114,111]⟩,.string ⟨#[117,112]⟩,.string ⟨#[100,111,119,110]⟩]) (.int .i64 1)).run Tryz.prog v = .ok (.string ⟨#[97,119,97,121]⟩) v:=fun _=>by kernel_rfl
 go_enter Tryz.func11,Tryz.ntmps11
 go_wp2_with fail
 refine wp_loop_rounds 6 ?_
 rw [rounds_succ]
 go_wp2
 rw [rounds_succ]
 go_wp2
 go_ret2
 exact ⟨rfl,Below.refl _ _⟩
end Go.Proofs.YtcclpafdkgnmiaaGreatDoor
