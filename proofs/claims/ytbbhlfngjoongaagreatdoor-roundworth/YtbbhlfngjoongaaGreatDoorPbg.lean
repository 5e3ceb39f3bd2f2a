/- Of what RoundWorthRow stands on: SScale SMono SMono2 SMono3 STenD SMono4 SKey SNames TnMath. -/
import Derived.Test.YtbbhlfngjoongaaGreatDoorPbf
import Derived.Test.YtbbhlfngjoongaaGreatDoorPau
import Derived.Test.YtbbhlfngjoongaaGreatDoorPaf
import Derived.Test.YtbbhlfngjoongaaGreatDoorPbc
import Derived.Test.YtbbhlfngjoongaaGreatDoorPax
namespace Go.Proofs.YtbbhlfngjoongaaGreatDoor
open Go.RowKit
set_option maxHeartbeats 2000000
set_option maxRecDepth 20000
theorem sclone (a:Option Addr) (n c m:Nat) (w:World) (h:Num w a n m):Calls Tryz.prog 64 #[.slice a n c] w fun e w'=>(∃ a' n' c',e = .returned (.slice a' n' c')∧Mine w' w.heap.size a' n' c' m)∧Below w.heap.size w w':=
 (clone_any a n c m w h).mono fun _ _ ⟨⟨a',c',h1,h2⟩,hb⟩=>⟨⟨a',n,c',h1,h2⟩,hb⟩
theorem rnought_c (a:Option Addr) (n c:Nat) (w:World) (b:Bool) (h:decide (n = 0) = b):Calls Tryz.prog 26 #[.agg #[.slice a n c]] w fun e w'=>e = .returned (.bool b)∧Below w.heap.size w w':=by
 subst h; exact nought_any a n c w
theorem slen10 (w:World):Calls Tryz.prog 65 #[.int .u32 10] w fun e w'=>e = .returned (.int .i64 4)∧Below w.heap.size w w':=
 (len32_int 10 w (by decide) (by decide)).mono fun e w' ⟨h1,h2⟩=>⟨by rw [h1]; rfl,by rw [← h2]; exact gr_refl _⟩
theorem spow10 (w:World):Calls Tryz.prog 66 #[.int .u32 10,.int .i64 1] w fun en w'=>(∃ a n c,en = .returned (.tuple #[.agg #[.slice a n c],.int .i64 0])∧Mine w' w.heap.size a n c 10)∧Below w.heap.size w w':=by
 have:=pow_any 10 1 w (by omega) (by omega)
 exact this.mono fun _ _ ⟨h1,hb⟩=>⟨ans_ok h1 (no_over (K:=4) (by decide) (by omega)),hb⟩
theorem scopied_is (w:World) (s:Bool) (a b:Option Addr) (n c k l x y:Nat) (t:Bool) (h1:Num w a n x) (h2:Num w b k y) :
  Calls Tryz.prog 27 #[.bool t,.agg #[.bool s,.slice a n c,.slice b k l]] w fun en w'=>(∃ A N C A' N' C',en = .returned (.agg #[.bool t,.slice A N C,.slice A' N' C'])∧Mine w' w.heap.size A N C x∧Mine w' w.heap.size A' N' C' y)∧Below w.heap.size w w':=by
 refine calls_sym Tryz.func27 rfl (by kernel_rfl) fun T hK=>?_
 replace hK:Kn T _ [(0,.bool t),(1,.agg #[.bool s,.slice a n c,.slice b k l])]:=hK
 have hS:=Fb.begin w
 have hG:GsAt [gN a n x,gN b k y] w:=⟨h1,h2,trivial⟩
 refine wp_symQ hS hG hK (fun p1=>[.n 3 #[.bool s,.slice a n c,.slice b k l] 35,.n 4 #[.bool false,.slice none 0 0,.slice none 0 0] 35]) (fun p1=>[(0,.bool t),(3,.pointer (some ⟨(p1 0).N,0,none⟩)),(4,.pointer (some ⟨(p1 1).N,0,none⟩))]) (by kernel_rfl) (fun _ _=>by kernel_rfl) (fun _=>by kernel_rfl) (fun _=>by kernel_rfl) (fun p1=>?_) (fun p1 W1 T hF hK=>?_)
 ·iterate 2 refine ok_n (fun _=>by kernel_rfl) ?_
  exact ok_nil
 replace hS:=SymF.fb hS hF [1000,1001] [⟨(p1 0).N,#[.bool s,.slice a n c,.slice b k l],35,true⟩,⟨(p1 1).N,#[.bool false,.slice none 0 0,.slice none 0 0],35,true⟩] (by kernel_rfl) (by kernel_rfl)
 replace hG:=hF.gx
 clear hF
 have z1:=hS.fr.size
 refine wp_symQ hS hG hK (fun p2=>[.v 5 (.bool t),.v 6 (.pointer (some ⟨(p1 0).N,1,none⟩)),.v 7 (.pointer (some ⟨(p1 0).N,1,none⟩)),.l 8 (.slice a n c) 0 1,.c (some 9) (cG W1.heap.size x fun x9=>x9),.v 10 (.agg #[.slice (p2 4).A (p2 4).N (p2 4).C]),.v 11 (.pointer (some ⟨(p1 0).N,2,none⟩)),.v 12 (.pointer (some ⟨(p1 0).N,2,none⟩)),.l 13 (.slice b k l) 0 2,.c (some 14) (cG W1.heap.size y fun x9=>x9),.v 15 (.agg #[.slice (p2 9).A (p2 9).N (p2 9).C]),.v 16 (.agg #[.bool t,.slice (p2 4).A (p2 4).N (p2 4).C,.slice (p2 9).A (p2 9).N (p2 9).C]),.p 1 0 [.bool t,.slice (p2 4).A (p2 4).N (p2 4).C,.slice (p2 9).A (p2 9).N (p2 9).C]]) (fun p2=>[(4,.pointer (some ⟨(p1 1).N,0,none⟩))]) (by kernel_rfl) (fun _ _=>by kernel_rfl) (fun _=>by kernel_rfl) (fun _=>by kernel_rfl) (fun p2=>?_) (fun p2 W2 T hF hK=>?_)
 ·iterate 3 refine ok_v (by kernel_rfl) ?_
  refine ok_L (by kernel_rfl) (by kernel_rfl) (by kernel_rfl) ?_
  refine ok_c (fun W cx=>as_g cx.hb (sclone _ _ c x _ (cx.G.1))) (by kernel_rfl) ?_
  iterate 3 refine ok_v (by kernel_rfl) ?_
  refine ok_L (by kernel_rfl) (by kernel_rfl) (by kernel_rfl) ?_
  refine ok_c (fun W cx=>as_g cx.hb (sclone _ _ l y _ (cx.G.2.1))) (by kernel_rfl) ?_
  iterate 2 refine ok_v (by kernel_rfl) ?_
  refine ok_P (by kernel_rfl) (by kernel_rfl) (by kernel_rfl) ?_
  exact ok_nil
 replace hS:=SymF.fb hS hF [1] [⟨(p1 1).N,#[.bool t,.slice (p2 4).A (p2 4).N (p2 4).C,.slice (p2 9).A (p2 9).N (p2 9).C],35,true⟩] (by kernel_rfl) (by kernel_rfl)
 replace hG:GsAt (gM W1.heap.size (p2 4).A (p2 4).N (p2 4).C x :: gM W1.heap.size (p2 9).A (p2 9).N (p2 9).C y :: _) W2:=⟨hF.fx 4,hF.fx 9,hF.gx⟩
 clear hF
 have z2:=hS.fr.size
 refine wp_ret ?_
 exact sym_end hS hK (.agg #[.bool t,.slice (p2 4).A (p2 4).N (p2 4).C,.slice (p2 9).A (p2 9).N (p2 9).C]) [(0,0,3)] [.bool t,.slice (p2 4).A (p2 4).N (p2 4).C,.slice (p2 9).A (p2 9).N (p2 9).C] (by kernel_rfl) (by kernel_rfl) ⟨⟨_,_,_,_,_,_,rfl,Mine.mono hG.1 z1,Mine.mono hG.2.1 z1⟩,hS.fr⟩
theorem sscl_m (w:World) (s:Bool) (a b:Option Addr) (n c k l x y:Nat) (t:Bool) (u v:Nat) (h1:Num w a n x) (h2:Num w b k y) (HO:Hid (∀ (W:World) (A:Option Addr) (N C:Nat) (A':Option Addr) (N' C':Nat),Num W a n x→Num W b k y→Num W A N 10→Num W A' N' 1→Calls Tryz.prog 29 #[.agg #[.bool s,.slice a n c,.slice b k l,.bool false,.slice A N C,.slice A' N' C']] W fun en W'=>(∃ A N C A' N' C',en = .returned (.tuple #[.agg #[.bool t,.slice A N C,.slice A' N' C'],.int .i64 0])∧Mine W' W.heap.size A N C u∧Mine W' W.heap.size A' N' C' v)∧Below W.heap.size W W')) :
  Calls Tryz.prog 28 #[.agg #[.bool s,.slice a n c,.slice b k l],.int .u32 10,.int .u64 1,.func (.func 29) #[] #[]] w fun en w'=>(∃ A N C A' N' C',en = .returned (.tuple #[.agg #[.bool t,.slice A N C,.slice A' N' C'],.int .i64 0])∧Mine w' w.heap.size A N C u∧Mine w' w.heap.size A' N' C' v)∧Below w.heap.size w w':=by
 refine calls_sym Tryz.func28 rfl (by kernel_rfl) fun T hK=>?_
 replace hK:Kn T _ [(0,.agg #[.bool s,.slice a n c,.slice b k l]),(1,.int .u32 10),(2,.int .u64 1),(3,.func (.func 29) #[] #[])]:=hK
 have hS:=Fb.begin w
 have hG:GsAt [gN a n x,gN b k y] w:=⟨h1,h2,trivial⟩
 refine wp_symQ hS hG hK (fun p1=>[.n 4 #[.bool s,.slice a n c,.slice b k l] 35,.n 8 #[.bool false,.slice none 0 0,.slice none 0 0] 35,.v 9 (.int .i64 0)]) (fun p1=>[(1,.int .u32 10),(2,.int .u64 1),(3,.func (.func 29) #[] #[]),(4,.pointer (some ⟨(p1 0).N,0,none⟩)),(8,.pointer (some ⟨(p1 1).N,0,none⟩)),(9,.int .i64 0)]) (by kernel_rfl) (fun _ _=>by kernel_rfl) (fun _=>by kernel_rfl) (fun _=>by kernel_rfl) (fun p1=>?_) (fun p1 W1 T hF hK=>?_)
 ·iterate 2 refine ok_n (fun _=>by kernel_rfl) ?_
  refine ok_v (by kernel_rfl) ?_
  exact ok_nil
 replace hS:=SymF.fb hS hF [1000,1001] [⟨(p1 0).N,#[.bool s,.slice a n c,.slice b k l],35,true⟩,⟨(p1 1).N,#[.bool false,.slice none 0 0,.slice none 0 0],35,true⟩] (by kernel_rfl) (by kernel_rfl)
 replace hG:=hF.gx
 clear hF
 have z1:=hS.fr.size
 refine wp_seq ?_
 refine wp_symQ hS hG hK (fun p2=>[.v 14 (.int .u64 1),.v 15 (.bool false)]) (fun p2=>[(1,.int .u32 10),(2,.int .u64 1),(3,.func (.func 29) #[] #[]),(4,.pointer (some ⟨(p1 0).N,0,none⟩)),(8,.pointer (some ⟨(p1 1).N,0,none⟩)),(9,.int .i64 0),(15,.bool false)]) (by kernel_rfl) (fun _ _=>by kernel_rfl) (fun _=>by kernel_rfl) (fun _=>by kernel_rfl) (fun p2=>?_) (fun p2 W2 T hF hK=>?_)
 ·iterate 2 refine ok_v (by kernel_rfl) ?_
  exact ok_nil
 replace hS:=SymF.fb hS hF [0,1] [⟨(p1 0).N,#[.bool s,.slice a n c,.slice b k l],35,true⟩,⟨(p1 1).N,#[.bool false,.slice none 0 0,.slice none 0 0],35,true⟩] (by kernel_rfl) (by kernel_rfl)
 replace hG:=hF.gx
 clear hF
 have z2:=hS.fr.size
 refine wp_cond_false (hK.ev 15 (by kernel_rfl) _ (by kernel_rfl)) ?_
 refine wp_skip ?_
 refine then_n ?_
 refine wp_symQ hS hG hK (fun p3=>[.v 17 (.int .u32 10),.c (some 18) (cV (.int .i64 4)),.v 19 (.int .i64 131072),.v 20 (.int .u64 131072),.v 10 (.int .u64 131072)]) (fun p3=>[(1,.int .u32 10),(2,.int .u64 1),(3,.func (.func 29) #[] #[]),(4,.pointer (some ⟨(p1 0).N,0,none⟩)),(8,.pointer (some ⟨(p1 1).N,0,none⟩)),(9,.int .i64 0),(10,.int .u64 131072),(15,.bool false)]) (by kernel_rfl) (fun _ _=>by kernel_rfl) (fun _=>by kernel_rfl) (fun _=>by kernel_rfl) (fun p3=>?_) (fun p3 W3 T hF hK=>?_)
 ·refine ok_v (by kernel_rfl) ?_
  refine ok_c (fun W cx=>as_v (slen10 _)) (by kernel_rfl) ?_
  iterate 3 refine ok_v (by kernel_rfl) ?_
  exact ok_nil
 replace hS:=SymF.fb hS hF [0,1] [⟨(p1 0).N,#[.bool s,.slice a n c,.slice b k l],35,true⟩,⟨(p1 1).N,#[.bool false,.slice none 0 0,.slice none 0 0],35,true⟩] (by kernel_rfl) (by kernel_rfl)
 replace hG:=hF.gx
 clear hF
 have z3:=hS.fr.size
 refine wp_seq ?_
 refine wp_block ?_
 refine wp_loop_rounds 2 ?_
 refine rounds_s ?_
 refine wp_seq ?_
 refine wp_symQ hS hG hK (fun p4=>[.v 21 (.int .u64 1),.v 22 (.bool true)]) (fun p4=>[(1,.int .u32 10),(2,.int .u64 1),(3,.func (.func 29) #[] #[]),(4,.pointer (some ⟨(p1 0).N,0,none⟩)),(8,.pointer (some ⟨(p1 1).N,0,none⟩)),(9,.int .i64 0),(10,.int .u64 131072),(15,.bool false),(21,.int .u64 1),(22,.bool true)]) (by kernel_rfl) (fun _ _=>by kernel_rfl) (fun _=>by kernel_rfl) (fun _=>by kernel_rfl) (fun p4=>?_) (fun p4 W4 T hF hK=>?_)
 ·iterate 2 refine ok_v (by kernel_rfl) ?_
  exact ok_nil
 replace hS:=SymF.fb hS hF [0,1] [⟨(p1 0).N,#[.bool s,.slice a n c,.slice b k l],35,true⟩,⟨(p1 1).N,#[.bool false,.slice none 0 0,.slice none 0 0],35,true⟩] (by kernel_rfl) (by kernel_rfl)
 replace hG:=hF.gx
 clear hF
 have z4:=hS.fr.size
 refine wp_cond_true (hK.ev 22 (by kernel_rfl) _ (by kernel_rfl)) ?_
 refine wp_skip ?_
 refine then_n ?_
 refine wp_block ?_
 refine wp_symQ hS hG hK (fun p5=>[.v 23 (.int .u64 1),.v 24 (.int .u64 131072),.v 25 (.int .u64 1),.v 11 (.int .u64 1)]) (fun p5=>[(1,.int .u32 10),(2,.int .u64 1),(3,.func (.func 29) #[] #[]),(4,.pointer (some ⟨(p1 0).N,0,none⟩)),(8,.pointer (some ⟨(p1 1).N,0,none⟩)),(9,.int .i64 0),(10,.int .u64 131072),(11,.int .u64 1),(15,.bool false),(21,.int .u64 1),(22,.bool true),(23,.int .u64 1),(24,.int .u64 131072),(25,.int .u64 1)]) (by kernel_rfl) (fun _ _=>by kernel_rfl) (fun _=>by kernel_rfl) (fun _=>by kernel_rfl) (fun p5=>?_) (fun p5 W5 T hF hK=>?_)
 ·iterate 4 refine ok_v (by kernel_rfl) ?_
  exact ok_nil
 replace hS:=SymF.fb hS hF [0,1] [⟨(p1 0).N,#[.bool s,.slice a n c,.slice b k l],35,true⟩,⟨(p1 1).N,#[.bool false,.slice none 0 0,.slice none 0 0],35,true⟩] (by kernel_rfl) (by kernel_rfl)
 replace hG:=hF.gx
 clear hF
 have z5:=hS.fr.size
 refine wp_symQ hS hG hK (fun p6=>[.v 26 (.int .u64 1),.v 27 (.int .u64 1),.v 28 (.int .u64 0),.v 2 (.int .u64 0)]) (fun p6=>[(1,.int .u32 10),(2,.int .u64 0),(3,.func (.func 29) #[] #[]),(4,.pointer (some ⟨(p1 0).N,0,none⟩)),(8,.pointer (some ⟨(p1 1).N,0,none⟩)),(9,.int .i64 0),(10,.int .u64 131072),(11,.int .u64 1),(15,.bool false),(21,.int .u64 1),(22,.bool true),(23,.int .u64 1),(24,.int .u64 131072),(25,.int .u64 1),(26,.int .u64 1),(27,.int .u64 1),(28,.int .u64 0)]) (by kernel_rfl) (fun _ _=>by kernel_rfl) (fun _=>by kernel_rfl) (fun _=>by kernel_rfl) (fun p6=>?_) (fun p6 W6 T hF hK=>?_)
 ·iterate 4 refine ok_v (by kernel_rfl) ?_
  exact ok_nil
 replace hS:=SymF.fb hS hF [0,1] [⟨(p1 0).N,#[.bool s,.slice a n c,.slice b k l],35,true⟩,⟨(p1 1).N,#[.bool false,.slice none 0 0,.slice none 0 0],35,true⟩] (by kernel_rfl) (by kernel_rfl)
 replace hG:=hF.gx
 clear hF
 have z6:=hS.fr.size
 refine wp_symQ hS hG hK (fun p7=>[.v 30 (.int .u32 10),.v 31 (.int .u64 1),.v 32 (.int .i64 1),.c (some 33) (cO W6.heap.size 10),.v 29 (.tuple #[.agg #[.slice (p7 3).A (p7 3).N (p7 3).C],.int .i64 0]),.v 34 (.agg #[.slice (p7 3).A (p7 3).N (p7 3).C]),.v 35 (.int .i64 0),.n 12 #[.slice none 0 0] 28,.p 1007 0 [.slice (p7 3).A (p7 3).N (p7 3).C],.v 13 (.int .i64 0)]) (fun p7=>[(1,.int .u32 10),(2,.int .u64 0),(3,.func (.func 29) #[] #[]),(4,.pointer (some ⟨(p1 0).N,0,none⟩)),(8,.pointer (some ⟨(p1 1).N,0,none⟩)),(9,.int .i64 0),(10,.int .u64 131072),(11,.int .u64 1),(12,.pointer (some ⟨(p7 7).N,0,none⟩)),(13,.int .i64 0),(15,.bool false),(21,.int .u64 1),(22,.bool true),(23,.int .u64 1),(24,.int .u64 131072),(25,.int .u64 1),(26,.int .u64 1),(27,.int .u64 1),(28,.int .u64 0),(29,.tuple #[.agg #[.slice (p7 3).A (p7 3).N (p7 3).C],.int .i64 0]),(30,.int .u32 10),(31,.int .u64 1),(32,.int .i64 1),(33,.tuple #[.agg #[.slice (p7 3).A (p7 3).N (p7 3).C],.int .i64 0]),(34,.agg #[.slice (p7 3).A (p7 3).N (p7 3).C]),(35,.int .i64 0)]) (by kernel_rfl) (fun _ _=>by kernel_rfl) (fun _=>by kernel_rfl) (fun _=>by kernel_rfl) (fun p7=>?_) (fun p7 W7 T hF hK=>?_)
 ·iterate 3 refine ok_v (by kernel_rfl) ?_
  refine ok_c (fun W cx=>as_o cx.hb (spow10 _)) (by kernel_rfl) ?_
  iterate 3 refine ok_v (by kernel_rfl) ?_
  refine ok_n (fun _=>by kernel_rfl) ?_
  refine ok_P (by kernel_rfl) (by kernel_rfl) (by kernel_rfl) ?_
  refine ok_v (by kernel_rfl) ?_
  exact ok_nil
 replace hS:=SymF.fb hS hF [0,1,1007] [⟨(p1 0).N,#[.bool s,.slice a n c,.slice b k l],35,true⟩,⟨(p1 1).N,#[.bool false,.slice none 0 0,.slice none 0 0],35,true⟩,⟨(p7 7).N,#[.slice (p7 3).A (p7 3).N (p7 3).C],28,true⟩] (by kernel_rfl) (by kernel_rfl)
 replace hG:GsAt (gM W6.heap.size (p7 3).A (p7 3).N (p7 3).C 10 :: _) W7:=⟨hF.fx 3,hF.gx⟩
 clear hF
 have z7:=hS.fr.size
 refine wp_seq ?_
 refine wp_symQ hS hG hK (fun p8=>[.v 36 (.int .i64 0),.v 37 (.bool false)]) (fun p8=>[(1,.int .u32 10),(2,.int .u64 0),(3,.func (.func 29) #[] #[]),(4,.pointer (some ⟨(p1 0).N,0,none⟩)),(8,.pointer (some ⟨(p1 1).N,0,none⟩)),(9,.int .i64 0),(10,.int .u64 131072),(11,.int .u64 1),(12,.pointer (some ⟨(p7 7).N,0,none⟩)),(13,.int .i64 0),(15,.bool false),(21,.int .u64 1),(22,.bool true),(23,.int .u64 1),(24,.int .u64 131072),(25,.int .u64 1),(26,.int .u64 1),(27,.int .u64 1),(28,.int .u64 0),(29,.tuple #[.agg #[.slice (p7 3).A (p7 3).N (p7 3).C],.int .i64 0]),(30,.int .u32 10),(31,.int .u64 1),(32,.int .i64 1),(33,.tuple #[.agg #[.slice (p7 3).A (p7 3).N (p7 3).C],.int .i64 0]),(34,.agg #[.slice (p7 3).A (p7 3).N (p7 3).C]),(35,.int .i64 0),(36,.int .i64 0),(37,.bool false)]) (by kernel_rfl) (fun _ _=>by kernel_rfl) (fun _=>by kernel_rfl) (fun _=>by kernel_rfl) (fun p8=>?_) (fun p8 W8 T hF hK=>?_)
 ·iterate 2 refine ok_v (by kernel_rfl) ?_
  exact ok_nil
 replace hS:=SymF.fb hS hF [0,1,2] [⟨(p1 0).N,#[.bool s,.slice a n c,.slice b k l],35,true⟩,⟨(p1 1).N,#[.bool false,.slice none 0 0,.slice none 0 0],35,true⟩,⟨(p7 7).N,#[.slice (p7 3).A (p7 3).N (p7 3).C],28,true⟩] (by kernel_rfl) (by kernel_rfl)
 replace hG:=hF.gx
 clear hF
 have z8:=hS.fr.size
 refine wp_cond_false (hK.ev 37 (by kernel_rfl) _ (by kernel_rfl)) ?_
 refine wp_skip ?_
 refine then_n ?_
 refine wp_symQ hS hG hK (fun p9=>[.v 41 (.func (.func 29) #[] #[]),.l 42 (.agg #[.bool s,.slice a n c,.slice b k l]) 0 0,.l 43 (.agg #[.slice (p7 3).A (p7 3).N (p7 3).C]) 2 0,.c (some 44) (cN W8.heap.size 1),.v 45 (.agg #[.bool false,.slice (p7 3).A (p7 3).N (p7 3).C,.slice (p9 3).A (p9 3).N (p9 3).C]),.v 46 (.agg #[.bool s,.slice a n c,.slice b k l,.bool false,.slice (p7 3).A (p7 3).N (p7 3).C,.slice (p9 3).A (p9 3).N (p9 3).C]),.c (some 47) (cH W8.heap.size u v fun x9 y9=>.tuple #[.agg #[.bool t,x9,y9],.int .i64 0]),.v 40 (.tuple #[.agg #[.bool t,.slice (p9 6).A (p9 6).N (p9 6).C,.slice (p9 6).A' (p9 6).N' (p9 6).C'],.int .i64 0]),.v 48 (.agg #[.bool t,.slice (p9 6).A (p9 6).N (p9 6).C,.slice (p9 6).A' (p9 6).N' (p9 6).C']),.v 49 (.int .i64 0),.p 0 0 [.bool t,.slice (p9 6).A (p9 6).N (p9 6).C,.slice (p9 6).A' (p9 6).N' (p9 6).C'],.v 13 (.int .i64 0)]) (fun p9=>[(1,.int .u32 10),(2,.int .u64 0),(3,.func (.func 29) #[] #[]),(4,.pointer (some ⟨(p1 0).N,0,none⟩)),(8,.pointer (some ⟨(p1 1).N,0,none⟩)),(9,.int .i64 0),(10,.int .u64 131072),(11,.int .u64 1),(12,.pointer (some ⟨(p7 7).N,0,none⟩)),(13,.int .i64 0),(15,.bool false),(21,.int .u64 1),(22,.bool true),(23,.int .u64 1),(24,.int .u64 131072),(25,.int .u64 1),(26,.int .u64 1),(27,.int .u64 1),(28,.int .u64 0),(29,.tuple #[.agg #[.slice (p7 3).A (p7 3).N (p7 3).C],.int .i64 0]),(30,.int .u32 10),(31,.int .u64 1),(32,.int .i64 1),(33,.tuple #[.agg #[.slice (p7 3).A (p7 3).N (p7 3).C],.int .i64 0]),(34,.agg #[.slice (p7 3).A (p7 3).N (p7 3).C]),(35,.int .i64 0),(36,.int .i64 0),(37,.bool false),(40,.tuple #[.agg #[.bool t,.slice (p9 6).A (p9 6).N (p9 6).C,.slice (p9 6).A' (p9 6).N' (p9 6).C'],.int .i64 0]),(41,.func (.func 29) #[] #[]),(42,.agg #[.bool s,.slice a n c,.slice b k l]),(43,.agg #[.slice (p7 3).A (p7 3).N (p7 3).C]),(44,.agg #[.slice (p9 3).A (p9 3).N (p9 3).C]),(45,.agg #[.bool false,.slice (p7 3).A (p7 3).N (p7 3).C,.slice (p9 3).A (p9 3).N (p9 3).C]),(46,.agg #[.bool s,.slice a n c,.slice b k l,.bool false,.slice (p7 3).A (p7 3).N (p7 3).C,.slice (p9 3).A (p9 3).N (p9 3).C]),(47,.tuple #[.agg #[.bool t,.slice (p9 6).A (p9 6).N (p9 6).C,.slice (p9 6).A' (p9 6).N' (p9 6).C'],.int .i64 0]),(48,.agg #[.bool t,.slice (p9 6).A (p9 6).N (p9 6).C,.slice (p9 6).A' (p9 6).N' (p9 6).C']),(49,.int .i64 0)]) (by kernel_rfl) (fun _ _=>by kernel_rfl) (fun _=>by kernel_rfl) (fun _=>by kernel_rfl) (fun p9=>?_) (fun p9 W9 T hF hK=>?_)
 ·refine ok_v (by kernel_rfl) ?_
  iterate 2 refine ok_L (by kernel_rfl) (by kernel_rfl) (by kernel_rfl) ?_
  refine ok_c (fun W cx=>as_n cx.hb (of_any 1 _ (by decide))) (by kernel_rfl) ?_
  iterate 2 refine ok_v (by kernel_rfl) ?_
  refine ok_c (fun W cx=>as_h cx.hb (unhide HO _ _ _ (p7 3).C _ _ (p9 3).C (cx.G.2.1) (cx.G.2.2.1) (Mine.num cx.G.1) (Mine.num (cx.F 3 (by kernel_rfl))))) (by kernel_rfl) ?_
  iterate 3 refine ok_v (by kernel_rfl) ?_
  refine ok_P (by kernel_rfl) (by kernel_rfl) (by kernel_rfl) ?_
  refine ok_v (by kernel_rfl) ?_
  exact ok_nil
 replace hS:=SymF.fb hS hF [0,1,2] [⟨(p1 0).N,#[.bool t,.slice (p9 6).A (p9 6).N (p9 6).C,.slice (p9 6).A' (p9 6).N' (p9 6).C'],35,true⟩,⟨(p1 1).N,#[.bool false,.slice none 0 0,.slice none 0 0],35,true⟩,⟨(p7 7).N,#[.slice (p7 3).A (p7 3).N (p7 3).C],28,true⟩] (by kernel_rfl) (by kernel_rfl)
 replace hG:GsAt (gM W8.heap.size (p9 3).A (p9 3).N (p9 3).C 1 :: gM W8.heap.size (p9 6).A (p9 6).N (p9 6).C u :: gM W8.heap.size (p9 6).A' (p9 6).N' (p9 6).C' v :: _) W9:=⟨hF.fx 3,And.left (hF.fx 6),And.right (hF.fx 6),hF.gx⟩
 clear hF
 have z9:=hS.fr.size
 refine wp_symQ hS hG hK (fun p10=>[.v 50 (.int .i64 0),.v 51 (.bool false)]) (fun p10=>[(1,.int .u32 10),(2,.int .u64 0),(3,.func (.func 29) #[] #[]),(4,.pointer (some ⟨(p1 0).N,0,none⟩)),(8,.pointer (some ⟨(p1 1).N,0,none⟩)),(9,.int .i64 0),(10,.int .u64 131072),(11,.int .u64 1),(12,.pointer (some ⟨(p7 7).N,0,none⟩)),(13,.int .i64 0),(15,.bool false),(21,.int .u64 1),(22,.bool true),(23,.int .u64 1),(24,.int .u64 131072),(25,.int .u64 1),(26,.int .u64 1),(27,.int .u64 1),(28,.int .u64 0),(29,.tuple #[.agg #[.slice (p7 3).A (p7 3).N (p7 3).C],.int .i64 0]),(30,.int .u32 10),(31,.int .u64 1),(32,.int .i64 1),(33,.tuple #[.agg #[.slice (p7 3).A (p7 3).N (p7 3).C],.int .i64 0]),(34,.agg #[.slice (p7 3).A (p7 3).N (p7 3).C]),(35,.int .i64 0),(36,.int .i64 0),(37,.bool false),(40,.tuple #[.agg #[.bool t,.slice (p9 6).A (p9 6).N (p9 6).C,.slice (p9 6).A' (p9 6).N' (p9 6).C'],.int .i64 0]),(41,.func (.func 29) #[] #[]),(42,.agg #[.bool s,.slice a n c,.slice b k l]),(43,.agg #[.slice (p7 3).A (p7 3).N (p7 3).C]),(44,.agg #[.slice (p9 3).A (p9 3).N (p9 3).C]),(45,.agg #[.bool false,.slice (p7 3).A (p7 3).N (p7 3).C,.slice (p9 3).A (p9 3).N (p9 3).C]),(46,.agg #[.bool s,.slice a n c,.slice b k l,.bool false,.slice (p7 3).A (p7 3).N (p7 3).C,.slice (p9 3).A (p9 3).N (p9 3).C]),(47,.tuple #[.agg #[.bool t,.slice (p9 6).A (p9 6).N (p9 6).C,.slice (p9 6).A' (p9 6).N' (p9 6).C'],.int .i64 0]),(48,.agg #[.bool t,.slice (p9 6).A (p9 6).N (p9 6).C,.slice (p9 6).A' (p9 6).N' (p9 6).C']),(49,.int .i64 0),(50,.int .i64 0),(51,.bool false)]) (by kernel_rfl) (fun _ _=>by kernel_rfl) (fun _=>by kernel_rfl) (fun _=>by kernel_rfl) (fun p10=>?_) (fun p10 W10 T hF hK=>?_)
 ·iterate 2 refine ok_v (by kernel_rfl) ?_
  exact ok_nil
 replace hS:=SymF.fb hS hF [0,1,2] [⟨(p1 0).N,#[.bool t,.slice (p9 6).A (p9 6).N (p9 6).C,.slice (p9 6).A' (p9 6).N' (p9 6).C'],35,true⟩,⟨(p1 1).N,#[.bool false,.slice none 0 0,.slice none 0 0],35,true⟩,⟨(p7 7).N,#[.slice (p7 3).A (p7 3).N (p7 3).C],28,true⟩] (by kernel_rfl) (by kernel_rfl)
 replace hG:=hF.gx
 clear hF
 have z10:=hS.fr.size
 refine wp_cond_false (hK.ev 51 (by kernel_rfl) _ (by kernel_rfl)) ?_
 refine wp_skip ?_
 refine inb_n ?_
 refine then_n ?_
 refine rounds_s ?_
 refine wp_seq ?_
 refine wp_symQ hS hG hK (fun p11=>[.v 21 (.int .u64 0),.v 22 (.bool false)]) (fun p11=>[(1,.int .u32 10),(2,.int .u64 0),(3,.func (.func 29) #[] #[]),(4,.pointer (some ⟨(p1 0).N,0,none⟩)),(8,.pointer (some ⟨(p1 1).N,0,none⟩)),(9,.int .i64 0),(10,.int .u64 131072),(11,.int .u64 1),(12,.pointer (some ⟨(p7 7).N,0,none⟩)),(13,.int .i64 0),(15,.bool false),(21,.int .u64 0),(22,.bool false),(23,.int .u64 1),(24,.int .u64 131072),(25,.int .u64 1),(26,.int .u64 1),(27,.int .u64 1),(28,.int .u64 0),(29,.tuple #[.agg #[.slice (p7 3).A (p7 3).N (p7 3).C],.int .i64 0]),(30,.int .u32 10),(31,.int .u64 1),(32,.int .i64 1),(33,.tuple #[.agg #[.slice (p7 3).A (p7 3).N (p7 3).C],.int .i64 0]),(34,.agg #[.slice (p7 3).A (p7 3).N (p7 3).C]),(35,.int .i64 0),(36,.int .i64 0),(37,.bool false),(40,.tuple #[.agg #[.bool t,.slice (p9 6).A (p9 6).N (p9 6).C,.slice (p9 6).A' (p9 6).N' (p9 6).C'],.int .i64 0]),(41,.func (.func 29) #[] #[]),(42,.agg #[.bool s,.slice a n c,.slice b k l]),(43,.agg #[.slice (p7 3).A (p7 3).N (p7 3).C]),(44,.agg #[.slice (p9 3).A (p9 3).N (p9 3).C]),(45,.agg #[.bool false,.slice (p7 3).A (p7 3).N (p7 3).C,.slice (p9 3).A (p9 3).N (p9 3).C]),(46,.agg #[.bool s,.slice a n c,.slice b k l,.bool false,.slice (p7 3).A (p7 3).N (p7 3).C,.slice (p9 3).A (p9 3).N (p9 3).C]),(47,.tuple #[.agg #[.bool t,.slice (p9 6).A (p9 6).N (p9 6).C,.slice (p9 6).A' (p9 6).N' (p9 6).C'],.int .i64 0]),(48,.agg #[.bool t,.slice (p9 6).A (p9 6).N (p9 6).C,.slice (p9 6).A' (p9 6).N' (p9 6).C']),(49,.int .i64 0),(50,.int .i64 0),(51,.bool false)]) (by kernel_rfl) (fun _ _=>by kernel_rfl) (fun _=>by kernel_rfl) (fun _=>by kernel_rfl) (fun p11=>?_) (fun p11 W11 T hF hK=>?_)
 ·iterate 2 refine ok_v (by kernel_rfl) ?_
  exact ok_nil
 replace hS:=SymF.fb hS hF [0,1,2] [⟨(p1 0).N,#[.bool t,.slice (p9 6).A (p9 6).N (p9 6).C,.slice (p9 6).A' (p9 6).N' (p9 6).C'],35,true⟩,⟨(p1 1).N,#[.bool false,.slice none 0 0,.slice none 0 0],35,true⟩,⟨(p7 7).N,#[.slice (p7 3).A (p7 3).N (p7 3).C],28,true⟩] (by kernel_rfl) (by kernel_rfl)
 replace hG:=hF.gx
 clear hF
 have z11:=hS.fr.size
 refine wp_cond_false (hK.ev 22 (by kernel_rfl) _ (by kernel_rfl)) ?_
 refine wp_exit ?_
 refine then_x ?_
 refine then_x ?_
 refine inb_x ?_
 refine then_n ?_
 refine wp_symQ hS hG hK (fun p12=>[.l 54 (.agg #[.bool t,.slice (p9 6).A (p9 6).N (p9 6).C,.slice (p9 6).A' (p9 6).N' (p9 6).C']) 0 0,.p 1 0 [.bool t,.slice (p9 6).A (p9 6).N (p9 6).C,.slice (p9 6).A' (p9 6).N' (p9 6).C'],.v 9 (.int .i64 0)]) (fun p12=>[(8,.pointer (some ⟨(p1 1).N,0,none⟩)),(9,.int .i64 0),(13,.int .i64 0),(15,.bool false),(22,.bool false),(37,.bool false),(51,.bool false)]) (by kernel_rfl) (fun _ _=>by kernel_rfl) (fun _=>by kernel_rfl) (fun _=>by kernel_rfl) (fun p12=>?_) (fun p12 W12 T hF hK=>?_)
 ·refine ok_L (by kernel_rfl) (by kernel_rfl) (by kernel_rfl) ?_
  refine ok_P (by kernel_rfl) (by kernel_rfl) (by kernel_rfl) ?_
  refine ok_v (by kernel_rfl) ?_
  exact ok_nil
 replace hS:=SymF.fb hS hF [1] [⟨(p1 1).N,#[.bool t,.slice (p9 6).A (p9 6).N (p9 6).C,.slice (p9 6).A' (p9 6).N' (p9 6).C'],35,true⟩] (by kernel_rfl) (by kernel_rfl)
 replace hG:=hF.gx
 clear hF
 have z12:=hS.fr.size
 refine wp_ret ?_
 exact sym_end hS hK (.tuple #[.agg #[.bool t,.slice (p9 6).A (p9 6).N (p9 6).C,.slice (p9 6).A' (p9 6).N' (p9 6).C'],.int .i64 0]) [(0,0,3)] [.bool t,.slice (p9 6).A (p9 6).N (p9 6).C,.slice (p9 6).A' (p9 6).N' (p9 6).C'] (by kernel_rfl) (by kernel_rfl) ⟨⟨_,_,_,_,_,_,rfl,Mine.mono hG.2.1 z8,Mine.mono hG.2.2.1 z8⟩,hS.fr⟩
theorem sscale_m (w:World) (s:Bool) (a b:Option Addr) (n c k l x y:Nat) (t:Bool) (u v:Nat) (hx:x≠0) (h1:Num w a n x) (h2:Num w b k y) (HC:Hid (∀ W:World,Num W a n x→Num W b k y→Calls Tryz.prog 24 #[.agg #[.bool s,.slice a n c,.slice b k l]] W fun e W'=>e = .returned (.int .i64 0)∧Below W.heap.size W W')) (HO:Hid (∀ (W:World) (A:Option Addr) (N C:Nat) (A':Option Addr) (N' C':Nat),Num W a n x→Num W b k y→Num W A N 10→Num W A' N' 1→Calls Tryz.prog 29 #[.agg #[.bool s,.slice a n c,.slice b k l,.bool false,.slice A N C,.slice A' N' C']] W fun en W'=>(∃ A N C A' N' C',en = .returned (.tuple #[.agg #[.bool t,.slice A N C,.slice A' N' C'],.int .i64 0])∧Mine W' W.heap.size A N C u∧Mine W' W.heap.size A' N' C' v)∧Below W.heap.size W W')) :
  Calls Tryz.prog 8 #[.agg #[.bool s,.slice a n c,.slice b k l],.int .u32 10,.int .i64 (-1)] w fun en w'=>(∃ A N C A' N' C',en = .returned (.tuple #[.agg #[.bool t,.slice A N C,.slice A' N' C'],.int .i64 0])∧Mine w' w.heap.size A N C u∧Mine w' w.heap.size A' N' C' v)∧Below w.heap.size w w':=by
 refine calls_sym Tryz.func8 rfl (by kernel_rfl) fun T hK=>?_
 replace hK:Kn T _ [(0,.agg #[.bool s,.slice a n c,.slice b k l]),(1,.int .u32 10),(2,.int .i64 (-1))]:=hK
 have hS:=Fb.begin w
 have hG:GsAt [gN a n x,gN b k y] w:=⟨h1,h2,trivial⟩
 refine wp_symQ hS hG hK (fun p1=>[.n 3 #[.bool s,.slice a n c,.slice b k l] 35,.n 6 #[.bool false,.slice none 0 0,.slice none 0 0] 35,.v 7 (.int .i64 0)]) (fun p1=>[(1,.int .u32 10),(2,.int .i64 (-1)),(3,.pointer (some ⟨(p1 0).N,0,none⟩)),(6,.pointer (some ⟨(p1 1).N,0,none⟩)),(7,.int .i64 0)]) (by kernel_rfl) (fun _ _=>by kernel_rfl) (fun _=>by kernel_rfl) (fun _=>by kernel_rfl) (fun p1=>?_) (fun p1 W1 T hF hK=>?_)
 ·iterate 2 refine ok_n (fun _=>by kernel_rfl) ?_
  refine ok_v (by kernel_rfl) ?_
  exact ok_nil
 replace hS:=SymF.fb hS hF [1000,1001] [⟨(p1 0).N,#[.bool s,.slice a n c,.slice b k l],35,true⟩,⟨(p1 1).N,#[.bool false,.slice none 0 0,.slice none 0 0],35,true⟩] (by kernel_rfl) (by kernel_rfl)
 replace hG:=hF.gx
 clear hF
 have z1:=hS.fr.size
 refine wp_seq ?_
 refine wp_symQ hS hG hK (fun p2=>[.l 9 (.agg #[.bool s,.slice a n c,.slice b k l]) 0 0,.c (some 10) (cV (.int .i64 0)),.v 8 (.int .i64 0)]) (fun p2=>[(1,.int .u32 10),(2,.int .i64 (-1)),(3,.pointer (some ⟨(p1 0).N,0,none⟩)),(6,.pointer (some ⟨(p1 1).N,0,none⟩)),(7,.int .i64 0),(8,.int .i64 0)]) (by kernel_rfl) (fun _ _=>by kernel_rfl) (fun _=>by kernel_rfl) (fun _=>by kernel_rfl) (fun p2=>?_) (fun p2 W2 T hF hK=>?_)
 ·refine ok_L (by kernel_rfl) (by kernel_rfl) (by kernel_rfl) ?_
  refine ok_c (fun W cx=>as_v (unhide HC _ (cx.G.1) (cx.G.2.1))) (by kernel_rfl) ?_
  refine ok_v (by kernel_rfl) ?_
  exact ok_nil
 replace hS:=SymF.fb hS hF [0,1] [⟨(p1 0).N,#[.bool s,.slice a n c,.slice b k l],35,true⟩,⟨(p1 1).N,#[.bool false,.slice none 0 0,.slice none 0 0],35,true⟩] (by kernel_rfl) (by kernel_rfl)
 replace hG:=hF.gx
 clear hF
 have z2:=hS.fr.size
 refine wp_symQ hS hG hK (fun p3=>[.v 11 (.int .i64 0),.v 12 (.bool false)]) (fun p3=>[(1,.int .u32 10),(2,.int .i64 (-1)),(3,.pointer (some ⟨(p1 0).N,0,none⟩)),(6,.pointer (some ⟨(p1 1).N,0,none⟩)),(7,.int .i64 0),(8,.int .i64 0),(12,.bool false)]) (by kernel_rfl) (fun _ _=>by kernel_rfl) (fun _=>by kernel_rfl) (fun _=>by kernel_rfl) (fun p3=>?_) (fun p3 W3 T hF hK=>?_)
 ·iterate 2 refine ok_v (by kernel_rfl) ?_
  exact ok_nil
 replace hS:=SymF.fb hS hF [0,1] [⟨(p1 0).N,#[.bool s,.slice a n c,.slice b k l],35,true⟩,⟨(p1 1).N,#[.bool false,.slice none 0 0,.slice none 0 0],35,true⟩] (by kernel_rfl) (by kernel_rfl)
 replace hG:=hF.gx
 clear hF
 have z3:=hS.fr.size
 refine wp_cond_false (hK.ev 12 (by kernel_rfl) _ (by kernel_rfl)) ?_
 refine wp_skip ?_
 refine then_n ?_
 refine wp_seq ?_
 refine wp_symQ hS hG hK (fun p4=>[.v 15 (.int .u32 10),.v 16 (.bool false),.v 17 (.bool false),.k (some 18),.k (some 19),.v 20 (.bool false)]) (fun p4=>[(1,.int .u32 10),(2,.int .i64 (-1)),(3,.pointer (some ⟨(p1 0).N,0,none⟩)),(6,.pointer (some ⟨(p1 1).N,0,none⟩)),(7,.int .i64 0),(8,.int .i64 0),(12,.bool false),(20,.bool false)]) (by kernel_rfl) (fun _ _=>by kernel_rfl) (fun _=>by kernel_rfl) (fun _=>by kernel_rfl) (fun p4=>?_) (fun p4 W4 T hF hK=>?_)
 ·iterate 3 refine ok_v (by kernel_rfl) ?_
  iterate 2 refine ok_K (by kernel_rfl) ?_
  refine ok_v (by kernel_rfl) ?_
  exact ok_nil
 replace hS:=SymF.fb hS hF [0,1] [⟨(p1 0).N,#[.bool s,.slice a n c,.slice b k l],35,true⟩,⟨(p1 1).N,#[.bool false,.slice none 0 0,.slice none 0 0],35,true⟩] (by kernel_rfl) (by kernel_rfl)
 replace hG:=hF.gx
 clear hF
 have z4:=hS.fr.size
 refine wp_cond_false (hK.ev 20 (by kernel_rfl) _ (by kernel_rfl)) ?_
 refine wp_skip ?_
 refine then_n ?_
 refine wp_seq ?_
 refine wp_symQ hS hG hK (fun p5=>[.v 22 (.int .u32 10),.v 23 (.bool false),.v 24 (.bool false),.k (some 25),.k (some 26),.v 27 (.bool false)]) (fun p5=>[(1,.int .u32 10),(2,.int .i64 (-1)),(3,.pointer (some ⟨(p1 0).N,0,none⟩)),(6,.pointer (some ⟨(p1 1).N,0,none⟩)),(7,.int .i64 0),(8,.int .i64 0),(12,.bool false),(20,.bool false),(27,.bool false)]) (by kernel_rfl) (fun _ _=>by kernel_rfl) (fun _=>by kernel_rfl) (fun _=>by kernel_rfl) (fun p5=>?_) (fun p5 W5 T hF hK=>?_)
 ·iterate 3 refine ok_v (by kernel_rfl) ?_
  iterate 2 refine ok_K (by kernel_rfl) ?_
  refine ok_v (by kernel_rfl) ?_
  exact ok_nil
 replace hS:=SymF.fb hS hF [0,1] [⟨(p1 0).N,#[.bool s,.slice a n c,.slice b k l],35,true⟩,⟨(p1 1).N,#[.bool false,.slice none 0 0,.slice none 0 0],35,true⟩] (by kernel_rfl) (by kernel_rfl)
 replace hG:=hF.gx
 clear hF
 have z5:=hS.fr.size
 refine wp_cond_false (hK.ev 27 (by kernel_rfl) _ (by kernel_rfl)) ?_
 refine wp_skip ?_
 refine then_n ?_
 refine wp_seq ?_
 refine wp_symQ hS hG hK (fun p6=>[.v 29 (.int .u32 10),.v 30 (.bool false),.v 31 (.bool false),.v 32 (.int .i64 (-1)),.v 33 (.bool false),.v 34 (.bool false),.v 35 (.bool false),.v 36 (.pointer (some ⟨(p1 0).N,1,none⟩)),.l 37 (.agg #[.slice a n c]) 0 1,.c (some 38) (cV (.bool false)),.v 39 (.bool false)]) (fun p6=>[(1,.int .u32 10),(2,.int .i64 (-1)),(3,.pointer (some ⟨(p1 0).N,0,none⟩)),(6,.pointer (some ⟨(p1 1).N,0,none⟩)),(7,.int .i64 0),(8,.int .i64 0),(12,.bool false),(20,.bool false),(27,.bool false),(39,.bool false)]) (by kernel_rfl) (fun _ _=>by kernel_rfl) (fun _=>by kernel_rfl) (fun _=>by kernel_rfl) (fun p6=>?_) (fun p6 W6 T hF hK=>?_)
 ·iterate 8 refine ok_v (by kernel_rfl) ?_
  refine ok_L (by kernel_rfl) (by kernel_rfl) (by kernel_rfl) ?_
  refine ok_c (fun W cx=>as_v (rnought_c a _ c _ _ (Num.noz (cx.G.1) hx))) (by kernel_rfl) ?_
  refine ok_v (by kernel_rfl) ?_
  exact ok_nil
 replace hS:=SymF.fb hS hF [0,1] [⟨(p1 0).N,#[.bool s,.slice a n c,.slice b k l],35,true⟩,⟨(p1 1).N,#[.bool false,.slice none 0 0,.slice none 0 0],35,true⟩] (by kernel_rfl) (by kernel_rfl)
 replace hG:=hF.gx
 clear hF
 have z6:=hS.fr.size
 refine wp_cond_false (hK.ev 39 (by kernel_rfl) _ (by kernel_rfl)) ?_
 refine wp_skip ?_
 refine then_n ?_
 refine wp_seq ?_
 refine wp_symQ hS hG hK (fun p7=>[.v 44 (.int .i64 (-1)),.v 45 (.bool true)]) (fun p7=>[(1,.int .u32 10),(2,.int .i64 (-1)),(3,.pointer (some ⟨(p1 0).N,0,none⟩)),(6,.pointer (some ⟨(p1 1).N,0,none⟩)),(7,.int .i64 0),(8,.int .i64 0),(12,.bool false),(20,.bool false),(27,.bool false),(39,.bool false),(45,.bool true)]) (by kernel_rfl) (fun _ _=>by kernel_rfl) (fun _=>by kernel_rfl) (fun _=>by kernel_rfl) (fun p7=>?_) (fun p7 W7 T hF hK=>?_)
 ·iterate 2 refine ok_v (by kernel_rfl) ?_
  exact ok_nil
 replace hS:=SymF.fb hS hF [0,1] [⟨(p1 0).N,#[.bool s,.slice a n c,.slice b k l],35,true⟩,⟨(p1 1).N,#[.bool false,.slice none 0 0,.slice none 0 0],35,true⟩] (by kernel_rfl) (by kernel_rfl)
 replace hG:=hF.gx
 clear hF
 have z7:=hS.fr.size
 refine wp_cond_true (hK.ev 45 (by kernel_rfl) _ (by kernel_rfl)) ?_
 refine wp_symQ hS hG hK (fun p8=>[.l 46 (.agg #[.bool s,.slice a n c,.slice b k l]) 0 0,.v 47 (.int .u32 10),.v 48 (.int .i64 (-1)),.v 49 (.int .u64 18446744073709551615),.v 50 (.int .u64 1),.c (some 51) (cH W7.heap.size u v fun x9 y9=>.tuple #[.agg #[.bool t,x9,y9],.int .i64 0]),.v 52 (.agg #[.bool t,.slice (p8 5).A (p8 5).N (p8 5).C,.slice (p8 5).A' (p8 5).N' (p8 5).C']),.v 53 (.int .i64 0),.p 1 0 [.bool t,.slice (p8 5).A (p8 5).N (p8 5).C,.slice (p8 5).A' (p8 5).N' (p8 5).C'],.v 7 (.int .i64 0)]) (fun p8=>[(1,.int .u32 10),(2,.int .i64 (-1)),(3,.pointer (some ⟨(p1 0).N,0,none⟩)),(6,.pointer (some ⟨(p1 1).N,0,none⟩)),(7,.int .i64 0),(8,.int .i64 0),(12,.bool false),(20,.bool false),(27,.bool false),(39,.bool false),(45,.bool true)]) (by kernel_rfl) (fun _ _=>by kernel_rfl) (fun _=>by kernel_rfl) (fun _=>by kernel_rfl) (fun p8=>?_) (fun p8 W8 T hF hK=>?_)
 ·refine ok_L (by kernel_rfl) (by kernel_rfl) (by kernel_rfl) ?_
  iterate 4 refine ok_v (by kernel_rfl) ?_
  refine ok_c (fun W cx=>as_h cx.hb (sscl_m _ s a b n c k l x y t u v (cx.G.1) (cx.G.2.1) HO)) (by kernel_rfl) ?_
  iterate 2 refine ok_v (by kernel_rfl) ?_
  refine ok_P (by kernel_rfl) (by kernel_rfl) (by kernel_rfl) ?_
  refine ok_v (by kernel_rfl) ?_
  exact ok_nil
 replace hS:=SymF.fb hS hF [0,1] [⟨(p1 0).N,#[.bool s,.slice a n c,.slice b k l],35,true⟩,⟨(p1 1).N,#[.bool t,.slice (p8 5).A (p8 5).N (p8 5).C,.slice (p8 5).A' (p8 5).N' (p8 5).C'],35,true⟩] (by kernel_rfl) (by kernel_rfl)
 replace hG:GsAt (gM W7.heap.size (p8 5).A (p8 5).N (p8 5).C u :: gM W7.heap.size (p8 5).A' (p8 5).N' (p8 5).C' v :: _) W8:=⟨And.left (hF.fx 5),And.right (hF.fx 5),hF.gx⟩
 clear hF
 have z8:=hS.fr.size
 refine wp_ret ?_
 refine then_r ?_
 exact sym_end hS hK (.tuple #[.agg #[.bool t,.slice (p8 5).A (p8 5).N (p8 5).C,.slice (p8 5).A' (p8 5).N' (p8 5).C'],.int .i64 0]) [(1,0,3)] [.bool t,.slice (p8 5).A (p8 5).N (p8 5).C,.slice (p8 5).A' (p8 5).N' (p8 5).C'] (by kernel_rfl) (by kernel_rfl) ⟨⟨_,_,_,_,_,_,rfl,Mine.mono hG.1 z7,Mine.mono hG.2.1 z7⟩,hS.fr⟩
theorem sscale0_m (w:World) (s:Bool) (a b:Option Addr) (n c k l x y:Nat) (hx:x = 0) (h1:Num w a n x) (h2:Num w b k y) (HC:Hid (∀ W:World,Num W a n x→Num W b k y→Calls Tryz.prog 24 #[.agg #[.bool s,.slice a n c,.slice b k l]] W fun e W'=>e = .returned (.int .i64 0)∧Below W.heap.size W W')) :
  Calls Tryz.prog 8 #[.agg #[.bool s,.slice a n c,.slice b k l],.int .u32 10,.int .i64 (-1)] w fun en w'=>(∃ A N C A' N' C',en = .returned (.tuple #[.agg #[.bool s,.slice A N C,.slice A' N' C'],.int .i64 0])∧Mine w' w.heap.size A N C x∧Mine w' w.heap.size A' N' C' y)∧Below w.heap.size w w':=by
 refine calls_sym Tryz.func8 rfl (by kernel_rfl) fun T hK=>?_
 replace hK:Kn T _ [(0,.agg #[.bool s,.slice a n c,.slice b k l]),(1,.int .u32 10),(2,.int .i64 (-1))]:=hK
 have hS:=Fb.begin w
 have hG:GsAt [gN a n x,gN b k y] w:=⟨h1,h2,trivial⟩
 refine wp_symQ hS hG hK (fun p1=>[.n 3 #[.bool s,.slice a n c,.slice b k l] 35,.n 6 #[.bool false,.slice none 0 0,.slice none 0 0] 35,.v 7 (.int .i64 0)]) (fun p1=>[(1,.int .u32 10),(2,.int .i64 (-1)),(3,.pointer (some ⟨(p1 0).N,0,none⟩)),(6,.pointer (some ⟨(p1 1).N,0,none⟩)),(7,.int .i64 0)]) (by kernel_rfl) (fun _ _=>by kernel_rfl) (fun _=>by kernel_rfl) (fun _=>by kernel_rfl) (fun p1=>?_) (fun p1 W1 T hF hK=>?_)
 ·iterate 2 refine ok_n (fun _=>by kernel_rfl) ?_
  refine ok_v (by kernel_rfl) ?_
  exact ok_nil
 replace hS:=SymF.fb hS hF [1000,1001] [⟨(p1 0).N,#[.bool s,.slice a n c,.slice b k l],35,true⟩,⟨(p1 1).N,#[.bool false,.slice none 0 0,.slice none 0 0],35,true⟩] (by kernel_rfl) (by kernel_rfl)
 replace hG:=hF.gx
 clear hF
 have z1:=hS.fr.size
 refine wp_seq ?_
 refine wp_symQ hS hG hK (fun p2=>[.l 9 (.agg #[.bool s,.slice a n c,.slice b k l]) 0 0,.c (some 10) (cV (.int .i64 0)),.v 8 (.int .i64 0)]) (fun p2=>[(1,.int .u32 10),(2,.int .i64 (-1)),(3,.pointer (some ⟨(p1 0).N,0,none⟩)),(6,.pointer (some ⟨(p1 1).N,0,none⟩)),(7,.int .i64 0),(8,.int .i64 0)]) (by kernel_rfl) (fun _ _=>by kernel_rfl) (fun _=>by kernel_rfl) (fun _=>by kernel_rfl) (fun p2=>?_) (fun p2 W2 T hF hK=>?_)
 ·refine ok_L (by kernel_rfl) (by kernel_rfl) (by kernel_rfl) ?_
  refine ok_c (fun W cx=>as_v (unhide HC _ (cx.G.1) (cx.G.2.1))) (by kernel_rfl) ?_
  refine ok_v (by kernel_rfl) ?_
  exact ok_nil
 replace hS:=SymF.fb hS hF [0,1] [⟨(p1 0).N,#[.bool s,.slice a n c,.slice b k l],35,true⟩,⟨(p1 1).N,#[.bool false,.slice none 0 0,.slice none 0 0],35,true⟩] (by kernel_rfl) (by kernel_rfl)
 replace hG:=hF.gx
 clear hF
 have z2:=hS.fr.size
 refine wp_symQ hS hG hK (fun p3=>[.v 11 (.int .i64 0),.v 12 (.bool false)]) (fun p3=>[(1,.int .u32 10),(2,.int .i64 (-1)),(3,.pointer (some ⟨(p1 0).N,0,none⟩)),(6,.pointer (some ⟨(p1 1).N,0,none⟩)),(7,.int .i64 0),(8,.int .i64 0),(12,.bool false)]) (by kernel_rfl) (fun _ _=>by kernel_rfl) (fun _=>by kernel_rfl) (fun _=>by kernel_rfl) (fun p3=>?_) (fun p3 W3 T hF hK=>?_)
 ·iterate 2 refine ok_v (by kernel_rfl) ?_
  exact ok_nil
 replace hS:=SymF.fb hS hF [0,1] [⟨(p1 0).N,#[.bool s,.slice a n c,.slice b k l],35,true⟩,⟨(p1 1).N,#[.bool false,.slice none 0 0,.slice none 0 0],35,true⟩] (by kernel_rfl) (by kernel_rfl)
 replace hG:=hF.gx
 clear hF
 have z3:=hS.fr.size
 refine wp_cond_false (hK.ev 12 (by kernel_rfl) _ (by kernel_rfl)) ?_
 refine wp_skip ?_
 refine then_n ?_
 refine wp_seq ?_
 refine wp_symQ hS hG hK (fun p4=>[.v 15 (.int .u32 10),.v 16 (.bool false),.v 17 (.bool false),.k (some 18),.k (some 19),.v 20 (.bool false)]) (fun p4=>[(1,.int .u32 10),(2,.int .i64 (-1)),(3,.pointer (some ⟨(p1 0).N,0,none⟩)),(6,.pointer (some ⟨(p1 1).N,0,none⟩)),(7,.int .i64 0),(8,.int .i64 0),(12,.bool false),(20,.bool false)]) (by kernel_rfl) (fun _ _=>by kernel_rfl) (fun _=>by kernel_rfl) (fun _=>by kernel_rfl) (fun p4=>?_) (fun p4 W4 T hF hK=>?_)
 ·iterate 3 refine ok_v (by kernel_rfl) ?_
  iterate 2 refine ok_K (by kernel_rfl) ?_
  refine ok_v (by kernel_rfl) ?_
  exact ok_nil
 replace hS:=SymF.fb hS hF [0,1] [⟨(p1 0).N,#[.bool s,.slice a n c,.slice b k l],35,true⟩,⟨(p1 1).N,#[.bool false,.slice none 0 0,.slice none 0 0],35,true⟩] (by kernel_rfl) (by kernel_rfl)
 replace hG:=hF.gx
 clear hF
 have z4:=hS.fr.size
 refine wp_cond_false (hK.ev 20 (by kernel_rfl) _ (by kernel_rfl)) ?_
 refine wp_skip ?_
 refine then_n ?_
 refine wp_seq ?_
 refine wp_symQ hS hG hK (fun p5=>[.v 22 (.int .u32 10),.v 23 (.bool false),.v 24 (.bool false),.k (some 25),.k (some 26),.v 27 (.bool false)]) (fun p5=>[(1,.int .u32 10),(2,.int .i64 (-1)),(3,.pointer (some ⟨(p1 0).N,0,none⟩)),(6,.pointer (some ⟨(p1 1).N,0,none⟩)),(7,.int .i64 0),(8,.int .i64 0),(12,.bool false),(20,.bool false),(27,.bool false)]) (by kernel_rfl) (fun _ _=>by kernel_rfl) (fun _=>by kernel_rfl) (fun _=>by kernel_rfl) (fun p5=>?_) (fun p5 W5 T hF hK=>?_)
 ·iterate 3 refine ok_v (by kernel_rfl) ?_
  iterate 2 refine ok_K (by kernel_rfl) ?_
  refine ok_v (by kernel_rfl) ?_
  exact ok_nil
 replace hS:=SymF.fb hS hF [0,1] [⟨(p1 0).N,#[.bool s,.slice a n c,.slice b k l],35,true⟩,⟨(p1 1).N,#[.bool false,.slice none 0 0,.slice none 0 0],35,true⟩] (by kernel_rfl) (by kernel_rfl)
 replace hG:=hF.gx
 clear hF
 have z5:=hS.fr.size
 refine wp_cond_false (hK.ev 27 (by kernel_rfl) _ (by kernel_rfl)) ?_
 refine wp_skip ?_
 refine then_n ?_
 refine wp_seq ?_
 refine wp_symQ hS hG hK (fun p6=>[.v 29 (.int .u32 10),.v 30 (.bool false),.v 31 (.bool false),.v 32 (.int .i64 (-1)),.v 33 (.bool false),.v 34 (.bool false),.v 35 (.bool false),.v 36 (.pointer (some ⟨(p1 0).N,1,none⟩)),.l 37 (.agg #[.slice a n c]) 0 1,.c (some 38) (cV (.bool true)),.v 39 (.bool true)]) (fun p6=>[(1,.int .u32 10),(2,.int .i64 (-1)),(3,.pointer (some ⟨(p1 0).N,0,none⟩)),(6,.pointer (some ⟨(p1 1).N,0,none⟩)),(7,.int .i64 0),(8,.int .i64 0),(12,.bool false),(20,.bool false),(27,.bool false),(39,.bool true)]) (by kernel_rfl) (fun _ _=>by kernel_rfl) (fun _=>by kernel_rfl) (fun _=>by kernel_rfl) (fun p6=>?_) (fun p6 W6 T hF hK=>?_)
 ·iterate 8 refine ok_v (by kernel_rfl) ?_
  refine ok_L (by kernel_rfl) (by kernel_rfl) (by kernel_rfl) ?_
  refine ok_c (fun W cx=>as_v (rnought_c a _ c _ _ (Num.isz (cx.G.1) hx))) (by kernel_rfl) ?_
  refine ok_v (by kernel_rfl) ?_
  exact ok_nil
 replace hS:=SymF.fb hS hF [0,1] [⟨(p1 0).N,#[.bool s,.slice a n c,.slice b k l],35,true⟩,⟨(p1 1).N,#[.bool false,.slice none 0 0,.slice none 0 0],35,true⟩] (by kernel_rfl) (by kernel_rfl)
 replace hG:=hF.gx
 clear hF
 have z6:=hS.fr.size
 refine wp_cond_true (hK.ev 39 (by kernel_rfl) _ (by kernel_rfl)) ?_
 refine wp_symQ hS hG hK (fun p7=>[.v 40 (.pointer (some ⟨(p1 0).N,0,none⟩)),.l 41 (.bool s) 0 0,.l 42 (.agg #[.bool s,.slice a n c,.slice b k l]) 0 0,.c (some 43) (cH W6.heap.size x y fun x9 y9=>.agg #[.bool s,x9,y9]),.p 1 0 [.bool s,.slice (p7 3).A (p7 3).N (p7 3).C,.slice (p7 3).A' (p7 3).N' (p7 3).C'],.v 7 (.int .i64 0)]) (fun p7=>[(1,.int .u32 10),(2,.int .i64 (-1)),(3,.pointer (some ⟨(p1 0).N,0,none⟩)),(6,.pointer (some ⟨(p1 1).N,0,none⟩)),(7,.int .i64 0),(8,.int .i64 0),(12,.bool false),(20,.bool false),(27,.bool false),(39,.bool true)]) (by kernel_rfl) (fun _ _=>by kernel_rfl) (fun _=>by kernel_rfl) (fun _=>by kernel_rfl) (fun p7=>?_) (fun p7 W7 T hF hK=>?_)
 ·refine ok_v (by kernel_rfl) ?_
  iterate 2 refine ok_L (by kernel_rfl) (by kernel_rfl) (by kernel_rfl) ?_
  refine ok_c (fun W cx=>as_h cx.hb (scopied_is _ s a b n c k l x y (s) (cx.G.1) (cx.G.2.1))) (by kernel_rfl) ?_
  refine ok_P (by kernel_rfl) (by kernel_rfl) (by kernel_rfl) ?_
  refine ok_v (by kernel_rfl) ?_
  exact ok_nil
 replace hS:=SymF.fb hS hF [0,1] [⟨(p1 0).N,#[.bool s,.slice a n c,.slice b k l],35,true⟩,⟨(p1 1).N,#[.bool s,.slice (p7 3).A (p7 3).N (p7 3).C,.slice (p7 3).A' (p7 3).N' (p7 3).C'],35,true⟩] (by kernel_rfl) (by kernel_rfl)
 replace hG:GsAt (gM W6.heap.size (p7 3).A (p7 3).N (p7 3).C x :: gM W6.heap.size (p7 3).A' (p7 3).N' (p7 3).C' y :: _) W7:=⟨And.left (hF.fx 3),And.right (hF.fx 3),hF.gx⟩
 clear hF
 have z7:=hS.fr.size
 refine wp_ret ?_
 refine then_r ?_
 exact sym_end hS hK (.tuple #[.agg #[.bool s,.slice (p7 3).A (p7 3).N (p7 3).C,.slice (p7 3).A' (p7 3).N' (p7 3).C'],.int .i64 0]) [(1,0,3)] [.bool s,.slice (p7 3).A (p7 3).N (p7 3).C,.slice (p7 3).A' (p7 3).N' (p7 3).C'] (by kernel_rfl) (by kernel_rfl) ⟨⟨_,_,_,_,_,_,rfl,Mine.mono hG.1 z6,Mine.mono hG.2.1 z6⟩,hS.fr⟩
theorem sstand_0p (w:World) (s:Bool) (a b:Option Addr) (n c k l:Nat) (h1:Num w a n 0) :
  Calls Tryz.prog 35 #[.agg #[.bool s,.slice a n c,.slice b k l],.int .i64 1] w fun en w'=>en = .returned (.tuple #[.agg #[.bool false,.slice none 0 0,.int .i64 0],.int .i64 0])∧Below w.heap.size w w':=by
 refine calls_sym Tryz.func35 rfl (by kernel_rfl) fun T hK=>?_
 replace hK:Kn T _ [(0,.agg #[.bool s,.slice a n c,.slice b k l]),(1,.int .i64 1)]:=hK
 have hS:=Fb.begin w
 have hG:GsAt [gN a n 0] w:=⟨h1,trivial⟩
 refine wp_symQ hS hG hK (fun p1=>[.n 2 #[.bool s,.slice a n c,.slice b k l] 35,.n 4 #[.bool false,.slice none 0 0,.int .i64 0] 30,.v 5 (.int .i64 0)]) (fun p1=>[(1,.int .i64 1),(2,.pointer (some ⟨(p1 0).N,0,none⟩)),(4,.pointer (some ⟨(p1 1).N,0,none⟩)),(5,.int .i64 0)]) (by kernel_rfl) (fun _ _=>by kernel_rfl) (fun _=>by kernel_rfl) (fun _=>by kernel_rfl) (fun p1=>?_) (fun p1 W1 T hF hK=>?_)
 ·iterate 2 refine ok_n (fun _=>by kernel_rfl) ?_
  refine ok_v (by kernel_rfl) ?_
  exact ok_nil
 replace hS:=SymF.fb hS hF [1000,1001] [⟨(p1 0).N,#[.bool s,.slice a n c,.slice b k l],35,true⟩,⟨(p1 1).N,#[.bool false,.slice none 0 0,.int .i64 0],30,true⟩] (by kernel_rfl) (by kernel_rfl)
 replace hG:=hF.gx
 clear hF
 have z1:=hS.fr.size
 refine wp_seq ?_
 refine wp_symQ hS hG hK (fun p2=>[.v 10 (.pointer (some ⟨(p1 0).N,1,none⟩)),.l 11 (.agg #[.slice a n c]) 0 1,.c (some 12) (cV (.bool true))]) (fun p2=>[(1,.int .i64 1),(2,.pointer (some ⟨(p1 0).N,0,none⟩)),(4,.pointer (some ⟨(p1 1).N,0,none⟩)),(5,.int .i64 0),(12,.bool true)]) (by kernel_rfl) (fun _ _=>by kernel_rfl) (fun _=>by kernel_rfl) (fun _=>by kernel_rfl) (fun p2=>?_) (fun p2 W2 T hF hK=>?_)
 ·refine ok_v (by kernel_rfl) ?_
  refine ok_L (by kernel_rfl) (by kernel_rfl) (by kernel_rfl) ?_
  refine ok_c (fun W cx=>as_v (snought a _ c _ _ (Num.isz (cx.G.1) rfl))) (by kernel_rfl) ?_
  exact ok_nil
 replace hS:=SymF.fb hS hF [0,1] [⟨(p1 0).N,#[.bool s,.slice a n c,.slice b k l],35,true⟩,⟨(p1 1).N,#[.bool false,.slice none 0 0,.int .i64 0],30,true⟩] (by kernel_rfl) (by kernel_rfl)
 replace hG:=hF.gx
 clear hF
 have z2:=hS.fr.size
 refine wp_cond_true (hK.ev 12 (by kernel_rfl) _ (by kernel_rfl)) ?_
 refine wp_symQ hS hG hK (fun p3=>[.v 13 (.agg #[.bool false,.slice none 0 0,.int .i64 0]),.p 1 0 [.bool false,.slice none 0 0,.int .i64 0],.v 5 (.int .i64 0)]) (fun p3=>[(1,.int .i64 1),(2,.pointer (some ⟨(p1 0).N,0,none⟩)),(4,.pointer (some ⟨(p1 1).N,0,none⟩)),(5,.int .i64 0),(12,.bool true)]) (by kernel_rfl) (fun _ _=>by kernel_rfl) (fun _=>by kernel_rfl) (fun _=>by kernel_rfl) (fun p3=>?_) (fun p3 W3 T hF hK=>?_)
 ·refine ok_v (by kernel_rfl) ?_
  refine ok_P (by kernel_rfl) (by kernel_rfl) (by kernel_rfl) ?_
  refine ok_v (by kernel_rfl) ?_
  exact ok_nil
 replace hS:=SymF.fb hS hF [0,1] [⟨(p1 0).N,#[.bool s,.slice a n c,.slice b k l],35,true⟩,⟨(p1 1).N,#[.bool false,.slice none 0 0,.int .i64 0],30,true⟩] (by kernel_rfl) (by kernel_rfl)
 replace hG:=hF.gx
 clear hF
 have z3:=hS.fr.size
 refine wp_ret ?_
 refine then_r ?_
 exact sym_end hS hK (.tuple #[.agg #[.bool false,.slice none 0 0,.int .i64 0],.int .i64 0]) [(1,0,3)] [.bool false,.slice none 0 0,.int .i64 0] (by kernel_rfl) (by kernel_rfl) ⟨rfl,hS.fr⟩
def hlf (r w:Nat):Int:=if 2 * r < w then -1 else if 2 * r = w then 0 else 1
def rnd (md:Nat) (s:Bool) (p w:Nat):Nat:=p / w+(if p % w = 0 then 0 else if fth md s (decide (p / w % 2 = 1)) (hlf (p % w) w) then 1 else 0)
theorem fth_mono {md:Nat} {s o:Bool} {h h':Int} (hle:h≤h') (hf:fth md s o h = true):fth md s o h' = true:=by
 match md with
 | 0=>
  simp only [fth,Bool.or_eq_true,Bool.and_eq_true,decide_eq_true_eq] at hf ⊢
  rcases hf with hf|⟨hf,ho⟩
  ·left; omega
  ·by_cases h0:h' = 0
   ·exact Or.inr ⟨h0,ho⟩
   ·left; omega
 | 1=>simp only [fth,decide_eq_true_eq] at hf ⊢; omega
 | 2=>simp [fth] at hf
 | 3=>simpa [fth] using hf
 | n+4=>simpa [fth] using hf
theorem hlf_mono {r w r' w':Nat} (hw:0 < w) (hw':0 < w') (h:r * w'≤r' * w):hlf r w≤hlf r' w':=by
 have k1:2 * r' < w'→2 * r < w:=fun h1=>by
  refine Nat.lt_of_not_le fun h2=>?_
  have a1:=Nat.mul_le_mul_right w' h2
  have a2:=Nat.mul_lt_mul_of_pos_right h1 hw
  have a3:2 * r * w' = 2 * (r * w'):=Nat.mul_assoc ..
  have a4:2 * r' * w = 2 * (r' * w):=Nat.mul_assoc ..
  have a5:=Nat.mul_comm w w'
  omega
 have k2:2 * r' = w'→2 * r≤w:=fun h1=>by
  refine Nat.le_of_not_lt fun h2=>?_
  have a1:=Nat.mul_lt_mul_of_pos_right h2 hw'
  have a3:2 * r * w' = 2 * (r * w'):=Nat.mul_assoc ..
  have a4:2 * r' * w = 2 * (r' * w):=Nat.mul_assoc ..
  have a5:=Nat.mul_comm w w'
  rw [h1] at a4
  omega
 unfold hlf
 split <;> split <;> (try split) <;> (try split) <;> omega
theorem rnd_mono {md:Nat} {s:Bool} {p w p' w':Nat} (hw:0 < w) (hw':0 < w') (h:p * w'≤p' * w):rnd md s p w≤rnd md s p' w':=by
 have hq:p / w≤p' / w':=by
  rw [Nat.le_div_iff_mul_le hw']
  have h1:p / w * w≤p:=Nat.div_mul_le_self p w
  have h2:=Nat.mul_le_mul_right w' h1
  refine Nat.le_of_mul_le_mul_right (c:=w) ?_ hw
  have a1:p / w * w' * w = p / w * w * w':=Nat.mul_right_comm ..
  omega
 have i1:rnd md s p w≤p / w+1:=by unfold rnd; split <;> (try split) <;> omega
 have i2:p' / w'≤rnd md s p' w':=by unfold rnd; omega
 rcases Nat.lt_or_ge (p / w) (p' / w') with h1|h1
 ·omega
 ·have e:p / w = p' / w':=by omega
  have hr:p % w * w'≤p' % w' * w:=by
   have d1:=Nat.div_add_mod p w
   have d2:=Nat.div_add_mod p' w'
   rw [← d1,← d2,Nat.add_mul,Nat.add_mul,← e] at h
   have a1:w * (p / w) * w' = w' * (p / w) * w:=by rw [Nat.mul_comm w (p / w),Nat.mul_comm w' (p / w),Nat.mul_right_comm]
   omega
  unfold rnd
  rw [← e]
  by_cases h0:p % w = 0
  ·rw [if_pos h0]; omega
  ·rw [if_neg h0]
   have h0':p' % w'≠0:=fun hc=>by
    rw [hc,Nat.zero_mul] at hr
    have:=Nat.mul_pos (Nat.pos_of_ne_zero h0) hw'
    omega
   rw [if_neg h0']
   have hm:=hlf_mono hw hw' hr
   by_cases hf:fth md s (decide (p / w % 2 = 1)) (hlf (p % w) w) = true
   ·rw [if_pos hf,if_pos (fth_mono hm hf)]; exact Nat.le_refl _
   ·rw [if_neg hf]; omega
theorem ahf_hlf {M dr:Nat} (ho:M % 2 = 1) (h1:1≤dr):ahf M dr = hlf (M % 2 ^ dr) (2 ^ dr):=by
 obtain ⟨k,rfl⟩:∃ k,dr = k+1:=⟨dr - 1,by omega⟩
 have hp:2 ^ (k+1) = 2 * 2 ^ k:=by rw [Nat.pow_succ,Nat.mul_comm]
 have hpk:=Nat.pow_pos (n:=k) (show 0 < 2 by omega)
 have hm:M % 2 ^ (k+1) = M % 2 ^ k+2 ^ k * (M / 2 ^ k % 2):=by rw [Nat.pow_succ,Nat.mod_mul]
 have hl:=Nat.mod_lt M hpk
 unfold ahf hlf
 rw [show k+1 - 1 = k from by omega,hm,hp]
 by_cases hb:M / 2 ^ k % 2 = 1
 ·rw [if_pos hb,hb,Nat.mul_one]
  by_cases hk:k = 0
  ·subst hk
   simp [Nat.mod_one]
  ·have hodd:M % 2 ^ k % 2 = 1:=by
    rw [Nat.mod_mod_of_dvd _ (Nat.dvd_of_mod_eq_zero (by rw [show k = (k - 1)+1 from by omega,Nat.pow_succ]; exact Nat.mul_mod_left ..))]; exact ho
   rw [if_neg (by omega),if_neg (by omega),if_neg (by omega)]
 ·have h0:M / 2 ^ k % 2 = 0:=by omega
  rw [if_neg hb,h0,Nat.mul_zero,if_pos (by omega)]
theorem hlf_scale {r w c:Nat} (hc:0 < c):hlf (c * r) (c * w) = hlf r w:=by
 have a1:2 * (c * r) = c * (2 * r):=Nat.mul_left_comm ..
 unfold hlf
 rw [a1]
 have e1:(c * (2 * r) < c * w) = (2 * r < w):=propext (Nat.mul_lt_mul_left hc)
 have e2:(c * (2 * r) = c * w) = (2 * r = w):=propext (Nat.mul_right_inj (by omega))
 simp only [e1,e2]
theorem cut_std {md:Nat} {s:Bool} {n d D A z M:Nat} {X t:Int} (hd:0 < d) (hA:A = if n % d = 0 then 2 * (n / d) else 2 * (n / d)+1) (hz:A = M * 2 ^ z) (ho:M % 2 = 1) (hD:2≤D) (hXt:(D:Int) = t - X+(z:Int)):cutR md s M X t = rnd md s n (d * 2 ^ (D - 1)):=by
 have p2:∀ k,0 < 2 ^ k:=fun k=>Nat.pow_pos (by omega)
 obtain ⟨e,rfl⟩:∃ e,D = e+2:=⟨D - 2,by omega⟩
 rw [show e+2 - 1 = e+1 from by omega]
 have hdm:=Nat.div_add_mod n d
 have hml:=Nat.mod_lt n hd
 obtain ⟨Q,hQ⟩:∃ Q,n / d = Q:=⟨_,rfl⟩
 obtain ⟨ρ,hρ⟩:∃ ρ,n % d = ρ:=⟨_,rfl⟩
 rw [hQ,hρ] at hdm hA
 rw [hρ] at hml
 have hpe:2 ^ (e+2) = 2 * 2 ^ (e+1):=by rw [Nat.pow_succ,Nat.mul_comm]
 have hpe1:2 ^ (e+1) = 2 * 2 ^ e:=by rw [Nat.pow_succ,Nat.mul_comm]
 have hdiv:n / (d * 2 ^ (e+1)) = Q / 2 ^ (e+1):=by rw [← Nat.div_div_eq_div_mul,hQ]
 obtain ⟨c,hc⟩:∃ c,Q / 2 ^ (e+1) = c:=⟨_,rfl⟩
 obtain ⟨q',hq'⟩:∃ q',Q % 2 ^ (e+1) = q':=⟨_,rfl⟩
 have hQd:=Nat.div_add_mod Q (2 ^ (e+1))
 have hql:=Nat.mod_lt Q (p2 (e+1))
 rw [hc,hq'] at hQd
 rw [hq'] at hql
 have hrem:n % (d * 2 ^ (e+1)) = d * q'+ρ:=by
  rw [Nat.mod_mul,hρ,hQ,hq']; omega
 have hA2:A / 2 ^ (e+2) = c∧A % 2 ^ (e+2) = 2 * q'+(if ρ = 0 then 0 else 1):=by
  have e1:A = 2 ^ (e+2) * c+(2 * q'+(if ρ = 0 then 0 else 1)):=by
   rw [hA,hpe,← hQd,Nat.mul_assoc]; split <;> omega
  have e2:2 * q'+(if ρ = 0 then 0 else 1) < 2 ^ (e+2):=by rw [hpe]; split <;> omega
  rw [e1]
  exact ⟨by rw [Nat.mul_add_div (p2 _),Nat.div_eq_of_lt e2]; omega,by rw [Nat.mul_add_mod,Nat.mod_eq_of_lt e2]⟩
 unfold cutR rnd
 rw [hdiv,hc,hrem]
 by_cases htX:t≤X
 ·rw [if_pos htX]
  obtain ⟨y,hy⟩:∃ y:Nat,(X - t).toNat = y:=⟨_,rfl⟩
  have hzy:z = (e+2)+y:=by omega
  have h1:A = 2 ^ (e+2) * (M * 2 ^ y):=by rw [hz,hzy,Nat.pow_add,Nat.mul_left_comm]
  have h2:A % 2 ^ (e+2) = 0:=by rw [h1]; exact Nat.mul_mod_right ..
  have h3:A / 2 ^ (e+2) = M * 2 ^ y:=by rw [h1]; exact Nat.mul_div_cancel_left _ (p2 _)
  rw [h2] at hA2
  have h4:q' = 0∧ρ = 0:=by
   have:=hA2.2
   split at this <;> omega
  rw [hy,← h3,hA2.1,h4.1,h4.2]
  simp
 ·rw [if_neg htX]
  obtain ⟨dr,hdr⟩:∃ dr:Nat,(t - X).toNat = dr:=⟨_,rfl⟩
  have hzd:e+2 = z+dr:=by omega
  have hdr1:1≤dr:=by omega
  have h1:M / 2 ^ dr = c:=by
   rw [← hA2.1,hz,hzd,Nat.pow_add,Nat.mul_comm M,Nat.mul_div_mul_left _ _ (p2 z)]
  have h2:2 ^ z * (M % 2 ^ dr) = 2 * q'+(if ρ = 0 then 0 else 1):=by
   rw [← hA2.2,hz,hzd,Nat.pow_add,Nat.mul_comm M,Nat.mul_mod_mul_left]
  have h3:M % 2 ^ dr≠0:=fun hc0=>by
   have:M % 2 ^ dr % 2 = 1:=by
    rw [Nat.mod_mod_of_dvd _ (Nat.dvd_of_mod_eq_zero (by rw [show dr = (dr - 1)+1 from by omega,Nat.pow_succ]; exact Nat.mul_mod_left ..))]; exact ho
   rw [hc0] at this; cases this
  have h4:d * q'+ρ≠0:=fun hc0=>by
   have hr0:ρ = 0:=by omega
   have hq0:d * q' = 0:=by omega
   have hq1:q' = 0:=by rcases Nat.mul_eq_zero.1 hq0 with h|h <;> omega
   rw [hr0,hq1] at h2
   rcases Nat.mul_eq_zero.1 (h2.trans (by simp)) with h|h
   ·have:=p2 z; omega
   ·exact h3 h
  rw [if_neg h4]
  unfold cutN
  rw [hdr,h1,ahf_hlf ho hdr1,← hlf_scale (p2 z),h2,← Nat.pow_add,← hzd]
  have hh:hlf (2 * q'+(if ρ = 0 then 0 else 1)) (2 ^ (e+2)) = hlf (d * q'+ρ) (d * 2 ^ (e+1)):=by
   rw [hpe,hpe1]
   obtain ⟨H,hH⟩:∃ H,2 ^ e = H:=⟨_,rfl⟩
   rw [hH]
   have m1:d * (2 * H) = 2 * (d * H):=Nat.mul_left_comm ..
   rw [m1]
   unfold hlf
   rcases Nat.lt_trichotomy q' H with hlt|heq|hgt
   ·have g1:d * q'+d≤d * H:=by rw [← Nat.mul_succ]; exact Nat.mul_le_mul_left d hlt
    rw [if_pos (by split <;> omega),if_pos (by omega)]
   ·subst heq
    by_cases hr:ρ = 0
    ·subst hr
     simp only [if_true]
     rw [if_neg (by omega),if_pos (by omega),if_neg (by omega),if_pos (by omega)]
    ·simp only [hr,if_false]
     rw [if_neg (by omega),if_neg (by omega),if_neg (by omega),if_neg (by omega)]
   ·have g1:d * H+d≤d * q':=by rw [← Nat.mul_succ]; exact Nat.mul_le_mul_left d hgt
    rw [if_neg (by split <;> omega),if_neg (by split <;> omega),if_neg (by omega),if_neg (by omega)]
  rw [hh]
theorem Bl.two {m k z:Nat} (h:Bl m k) (h0:0 < m):Bl (2 ^ z * m) (k+z):=by
 have hk:k≠0:=fun e=>by have:=h.1; rw [e] at this; simp at this; omega
 have hp:0 < 2 ^ z:=Nat.pow_pos (by omega)
 refine ⟨?_,Or.inr ?_⟩
 ·rw [Nat.add_comm k z,Nat.pow_add]; exact Nat.mul_lt_mul_of_pos_left h.1 hp
 ·rcases h.2 with h2|h2
  ·exact absurd h2 hk
  ·rw [show k+z - 1 = z+(k - 1) from by omega,Nat.pow_add]; exact Nat.mul_le_mul_left _ h2
theorem Bl.odd {m k:Nat} (h:Bl m k) (h0:0 < m):Bl (2 * m+1) (k+1):=by
 have h1:=(h.two (z:=1) h0)
 rw [Nat.pow_one] at h1
 have hk:k≠0:=fun e=>by have:=h.1; rw [e] at this; simp at this; omega
 have e1:2 ^ (k+1) = 2 * 2 ^ k:=by rw [Nat.pow_succ,Nat.mul_comm]
 refine ⟨?_,Or.inr ?_⟩
 ·have:=h.1; omega
 ·rcases h1.2 with h2|h2
  ·omega
  ·omega
structure Std (m d j n b z M K:Nat) (X:Int):Prop where
 hn:n = m * 2 ^ j
 hd:0 < d
 hA:(if n % d = 0 then 2 * (n / d) else 2 * (n / d)+1) = M * 2 ^ z
 ho:M % 2 = 1
 hK:Bl M K
 hb:Bl (n / d) b
 b65:65≤b
 hX:X = -(j:Int) - 1+(z:Int)
theorem Std.e {m d j n b z M K:Nat} {X:Int} (h:Std m d j n b z M K X):X+(K:Int) - 1 = (b:Int) - 1 - (j:Int):=by
 have hM:0 < M:=by have:=h.ho; omega
 have hQ:0 < n / d:=by
  refine Nat.pos_of_ne_zero fun e=>?_
  have h2:=h.hb.2
  rw [e] at h2
  have:=Nat.pow_pos (n:=b - 1) (show 0 < 2 by omega)
  have:=h.b65
  omega
 have h1:=h.hK.two (z:=z) hM
 rw [Nat.mul_comm,← h.hA] at h1
 have h2:Bl (if n % d = 0 then 2 * (n / d) else 2 * (n / d)+1) (b+1):=by
  split
  ·have:=h.hb.two (z:=1) hQ; rw [Nat.pow_one] at this; exact this
  ·exact h.hb.odd hQ
 have h3:=h1.uniq h2
 rw [h.hX]; omega
theorem Std.row {m d j n b z M K:Nat} {X:Int} (h:Std m d j n b z M K X) {B F md:Nat} {s:Bool} (hF:F≤52):∃ D:Nat,(D:Int) = lastP B F K X+(j:Int)+1∧2≤D∧cutR md s M X (lastP B F K X) = rnd md s n (d * 2 ^ (D - 1)):=by
 have he:=h.e
 have hb:=h.b65
 have hX:=h.hX
 have hl:(b:Int) - 1 - (j:Int) - (F:Int)≤lastP B F K X:=by unfold lastP; omega
 obtain ⟨D,hD⟩:∃ D:Nat,(D:Int) = lastP B F K X+(j:Int)+1:=⟨(lastP B F K X+(j:Int)+1).toNat,by omega⟩
 exact ⟨D,hD,by omega,cut_std (z:=z) h.hd rfl h.hA h.ho (by omega) (by omega)⟩
theorem rowR_mono {B F md:Nat} {s:Bool} {m d j n b z M K:Nat} {X:Int} {m' d' j' n' b' z' M' K':Nat} {X':Int} (h:Std m d j n b z M K X) (h':Std m' d' j' n' b' z' M' K' X') (hF:F≤52) (hle:m * d'≤m' * d):rowR B F md s M K X≤rowR B F md s M' K' X':=by
 have he:=h.e
 have he':=h'.e
 have hpos:∀ k,0 < 2 ^ k:=fun k=>Nat.pow_pos (by omega)
 have hee:(b:Int) - 1 - (j:Int)≤(b':Int) - 1 - (j':Int):=by
  refine Int.not_lt.1 fun hc=>?_
  have k1:b'+j≤b - 1+j':=by omega
  have l1:2 ^ (b - 1) * d≤m * 2 ^ j:=by
   rw [← h.hn]
   have h2:2 ^ (b - 1)≤n / d:=by
    rcases h.hb.2 with q|q
    ·have:=h.b65; omega
    ·exact q
   exact (Nat.le_div_iff_mul_le h.hd).1 h2
  have l2:m' * 2 ^ j' < 2 ^ b' * d':=by
   rw [← h'.hn]
   exact (Nat.div_lt_iff_lt_mul h'.hd).1 h'.hb.1
  have a1:2 ^ (b'+j) * (d * d')≤2 ^ (b - 1+j') * (d * d'):=Nat.mul_le_mul_right _ (Nat.pow_le_pow_right (by omega) k1)
  have a2:2 ^ (b - 1+j') * (d * d') = 2 ^ (b - 1) * d * (2 ^ j' * d'):=by rw [Nat.pow_add]; ac_rfl
  have a3:2 ^ (b'+j) * (d * d') = 2 ^ b' * d' * (2 ^ j * d):=by rw [Nat.pow_add]; ac_rfl
  have a4:=Nat.mul_le_mul_right (2 ^ j' * d') l1
  have a5:=Nat.mul_lt_mul_of_pos_right l2 (Nat.mul_pos (hpos j) h.hd)
  have a6:m * 2 ^ j * (2 ^ j' * d') = m * d' * (2 ^ j * 2 ^ j'):=by ac_rfl
  have a7:m' * 2 ^ j' * (2 ^ j * d) = m' * d * (2 ^ j * 2 ^ j'):=by ac_rfl
  have a8:=Nat.mul_le_mul_right (2 ^ j * 2 ^ j') hle
  omega
 obtain ⟨D,hD,hD2,hr⟩:=h.row (B:=B) (md:=md) (s:=s) hF
 obtain ⟨D',hD',hD2',hr'⟩:=h'.row (B:=B) (md:=md) (s:=s) hF
 have hM:0 < M:=by have:=h.ho; omega
 have hM':0 < M':=by have:=h'.ho; omega
 unfold rowR
 have ht:lastP B F K X≤lastP B F K' X':=by unfold lastP; omega
 rcases Int.lt_or_eq_of_le ht with hlt|heq
 ·have g1:cutR md s M X (lastP B F K X)≤2 ^ (F+1):=cutR_le h.hK hM (by unfold lastP; omega)
  have g2:2 ^ F≤cutR md s M' X' (lastP B F K' X'):=by
   have:lastP B F K' X' = X'+(K':Int) - 1 - (F:Int):=by unfold lastP at hlt ⊢; omega
   rw [this]
   exact cutR_ge h'.hK hM' rfl
  have p1:2 ^ (F+1) = 2 * 2 ^ F:=by rw [Nat.pow_succ,Nat.mul_comm]
  obtain ⟨u,hu⟩:∃ u:Nat,(lastP B F K X - (1 - (B:Int) - (F:Int))).toNat = u:=⟨_,rfl⟩
  obtain ⟨v,hv⟩:∃ v:Nat,(lastP B F K' X' - (1 - (B:Int) - (F:Int))).toNat = v:=⟨_,rfl⟩
  have huv:u+1≤v:=by unfold lastP at hlt hu hv; omega
  have g3:=Nat.mul_le_mul_right (2 ^ F) huv
  rw [Nat.add_mul,Nat.one_mul] at g3
  rw [hu,hv]
  omega
 ·rw [hr,hr',heq]
  refine Nat.add_le_add_left (rnd_mono (Nat.mul_pos h.hd (hpos _)) (Nat.mul_pos h'.hd (hpos _)) ?_) _
  rw [h.hn,h'.hn]
  have x1:m * 2 ^ j * (d' * 2 ^ (D' - 1)) = m * d' * 2 ^ (j+(D' - 1)):=by rw [Nat.pow_add]; ac_rfl
  have x2:m' * 2 ^ j' * (d * 2 ^ (D - 1)) = m' * d * 2 ^ (j+(D' - 1)):=by rw [show j+(D' - 1) = j'+(D - 1) from by omega,Nat.pow_add]; ac_rfl
  rw [x1,x2]
  exact Nat.mul_le_mul_right _ hle
theorem std_of {m d z q:Nat} (h0:0 < m) (hd:0 < d) (hz:sAns m d = 2 ^ z * (2 * q+1)) {K:Nat} (hK:Bl (2 * q+1) K):Std m d (sLift m d+sMore m d) (sAll m d) (blen (sAll m d / d)) z (2 * q+1) K (sExp m d+(z:Int)):=by
 have hn:sAll m d = m * 2 ^ (sLift m d+sMore m d):=by unfold sAll sOne; rw [Nat.pow_add,Nat.mul_assoc]
 refine ⟨hn,hd,by unfold sAns at hz; rw [hz,Nat.mul_comm],by omega,hK,bl_blen _,?_,by unfold sExp; omega⟩
 have h1:0 < sOne m d:=Nat.mul_pos h0 (Nat.pow_pos (by omega))
 have bt:=bl_blen (sOne m d)
 have bd:=bl_blen d
 have ht:2 ^ (blen (sOne m d) - 1)≤sOne m d:=by
  rcases bt.2 with e|e
  ·have:=bt.1; rw [e] at this; simp at this; omega
  ·exact e
 have ht0:blen (sOne m d)≠0:=fun e=>by have:=bt.1; rw [e] at this; simp at this; omega
 have h2:2 ^ (64+blen d)≤sAll m d:=by
  unfold sAll
  refine Nat.le_trans ?_ (Nat.mul_le_mul_right _ ht)
  rw [← Nat.pow_add]
  exact Nat.pow_le_pow_right (by omega) (by unfold sMore; omega)
 have h3:2 ^ 64≤sAll m d / d:=by
  rw [Nat.le_div_iff_mul_le hd]
  refine Nat.le_trans ?_ h2
  rw [Nat.pow_add]
  exact Nat.mul_le_mul_left _ (Nat.le_of_lt bd.1)
 exact (bl_blen _).gt_of h3
structure Sti (m q d i j n b z M K:Nat) (X:Int):Prop where
 hn:n * q * 2 ^ i = m * d * 2 ^ j
 hq:0 < q
 hd:0 < d
 hA:(if n % d = 0 then 2 * (n / d) else 2 * (n / d)+1) = M * 2 ^ z
 ho:M % 2 = 1
 hK:Bl M K
 hb:Bl (n / d) b
 b60:60≤b
 hX:X = (i:Int) - (j:Int) - 1+(z:Int)
theorem Std.sti {m d j n b z M K:Nat} {X:Int} (h:Std m d j n b z M K X):Sti m d d 0 j n b z M K X:=
 ⟨by rw [Nat.pow_zero,Nat.mul_one,h.hn]; ac_rfl,h.hd,h.hd,h.hA,h.ho,h.hK,h.hb,by have:=h.b65; omega,by rw [h.hX]; omega⟩
theorem Sti.e {m q d i j n b z M K:Nat} {X:Int} (h:Sti m q d i j n b z M K X):X+(K:Int) - 1 = (b:Int) - 1 - (j:Int)+(i:Int):=by
 have hM:0 < M:=by have:=h.ho; omega
 have hQ:0 < n / d:=by
  refine Nat.pos_of_ne_zero fun e=>?_
  have h2:=h.hb.2
  rw [e] at h2
  have:=Nat.pow_pos (n:=b - 1) (show 0 < 2 by omega)
  have:=h.b60
  omega
 have h1:=h.hK.two (z:=z) hM
 rw [Nat.mul_comm,← h.hA] at h1
 have h2:Bl (if n % d = 0 then 2 * (n / d) else 2 * (n / d)+1) (b+1):=by
  split
  ·have:=h.hb.two (z:=1) hQ; rw [Nat.pow_one] at this; exact this
  ·exact h.hb.odd hQ
 have h3:=h1.uniq h2
 rw [h.hX]; omega
theorem Sti.cut {m q d i j n b z M K:Nat} {X t:Int} (h:Sti m q d i j n b z M K X) (md:Nat) (s:Bool) (ht:X+(K:Int) - 1 - 52≤t):∃ D:Nat,(D:Int) = t+(j:Int) - (i:Int)+1∧2≤D∧cutR md s M X t = rnd md s n (d * 2 ^ (D - 1)):=by
 have he:=h.e
 have hb:=h.b60
 have hX:=h.hX
 obtain ⟨D,hD⟩:∃ D:Nat,(D:Int) = t+(j:Int) - (i:Int)+1:=⟨(t+(j:Int) - (i:Int)+1).toNat,by omega⟩
 exact ⟨D,hD,by omega,cut_std (z:=z) h.hd rfl h.hA h.ho (by omega) (by omega)⟩
theorem cross_pow {n m q d i j n' m' q' d' i' j' D D':Nat} (h1:n * q * 2 ^ i = m * d * 2 ^ j) (h2:n' * q' * 2 ^ i' = m' * d' * 2 ^ j') (hq:0 < q) (hq':0 < q') (hle:m * q'≤m' * q) (hD:D+j'+i = D'+j+i'):n * (d' * 2 ^ D')≤n' * (d * 2 ^ D):=by
 have hp2:0 < q * q' * 2 ^ (i+i'):=Nat.mul_pos (Nat.mul_pos hq hq') (Nat.pow_pos (by omega))
 have a1:n * (d' * 2 ^ D') * (q * q' * 2 ^ (i+i')) = m * q' * (d * d' * 2 ^ (j+D'+i')):=by
  have:n * (d' * 2 ^ D') * (q * q' * 2 ^ (i+i')) = n * q * 2 ^ i * (d' * q' * (2 ^ D' * 2 ^ i')):=by rw [Nat.pow_add]; ac_rfl
  rw [this,h1,Nat.pow_add,Nat.pow_add]; ac_rfl
 have a2:n' * (d * 2 ^ D) * (q * q' * 2 ^ (i+i')) = m' * q * (d * d' * 2 ^ (j'+D+i)):=by
  have:n' * (d * 2 ^ D) * (q * q' * 2 ^ (i+i')) = n' * q' * 2 ^ i' * (d * q * (2 ^ D * 2 ^ i)):=by rw [Nat.pow_add]; ac_rfl
  rw [this,h2,Nat.pow_add,Nat.pow_add]; ac_rfl
 refine Nat.le_of_mul_le_mul_right ?_ hp2
 rw [a1,a2,show j'+D+i = j+D'+i' from by omega]
 exact Nat.mul_le_mul_right _ hle
theorem Sti.le {m q d i j n b z M K:Nat} {X:Int} {m' q' d' i' j' n' b' z' M' K':Nat} {X':Int} (h:Sti m q d i j n b z M K X) (h':Sti m' q' d' i' j' n' b' z' M' K' X') (hle:m * q'≤m' * q):X+(K:Int) - 1≤X'+(K':Int) - 1:=by
 have he:=h.e
 have he':=h'.e
 have hpos:∀ k,0 < 2 ^ k:=fun k=>Nat.pow_pos (by omega)
 refine Int.not_lt.1 fun hc=>?_
 have k1:b'+j+i'+1≤b+j'+i:=by omega
 have l1:2 ^ (b - 1) * d≤n:=by
  have h2:2 ^ (b - 1)≤n / d:=by
   rcases h.hb.2 with q9|q9
   ·have:=h.b60; omega
   ·exact q9
  exact (Nat.le_div_iff_mul_le h.hd).1 h2
 have l2:n' < 2 ^ b' * d':=(Nat.div_lt_iff_lt_mul h'.hd).1 h'.hb.1
 obtain ⟨D,hD⟩:∃ D,D = j+i':=⟨_,rfl⟩
 obtain ⟨D',hD'⟩:∃ D',D' = j'+i:=⟨_,rfl⟩
 have x:=cross_pow h.hn h'.hn h.hq h'.hq hle (D:=D) (D':=D') (by omega)
 have y1:2 ^ (b - 1) * d * (d' * 2 ^ D')≤n * (d' * 2 ^ D'):=Nat.mul_le_mul_right _ l1
 have y2:n' * (d * 2 ^ D) < 2 ^ b' * d' * (d * 2 ^ D):=Nat.mul_lt_mul_of_pos_right l2 (Nat.mul_pos h.hd (hpos _))
 have y3:2 ^ (b - 1) * d * (d' * 2 ^ D') = 2 ^ (b - 1+D') * (d * d'):=by rw [Nat.pow_add]; ac_rfl
 have y4:2 ^ b' * d' * (d * 2 ^ D) = 2 ^ (b'+D) * (d * d'):=by rw [Nat.pow_add]; ac_rfl
 have hb:=h.b60
 have y5:2 ^ (b'+D) * (d * d')≤2 ^ (b - 1+D') * (d * d'):=Nat.mul_le_mul_right _ (Nat.pow_le_pow_right (by omega) (by omega))
 omega
theorem Sti.cut_le {m q d i j n b z M K:Nat} {X:Int} {m' q' d' i' j' n' b' z' M' K':Nat} {X' t:Int} (h:Sti m q d i j n b z M K X) (h':Sti m' q' d' i' j' n' b' z' M' K' X') (md:Nat) (s:Bool) (ht:X+(K:Int) - 1 - 52≤t) (ht':X'+(K':Int) - 1 - 52≤t) (hle:m * q'≤m' * q):cutR md s M X t≤cutR md s M' X' t:=by
 have hpos:∀ k,0 < 2 ^ k:=fun k=>Nat.pow_pos (by omega)
 obtain ⟨D,hD,hD2,hr⟩:=h.cut md s ht
 obtain ⟨D',hD',hD2',hr'⟩:=h'.cut md s ht'
 rw [hr,hr']
 exact rnd_mono (Nat.mul_pos h.hd (hpos _)) (Nat.mul_pos h'.hd (hpos _)) (cross_pow h.hn h'.hn h.hq h'.hq hle (by omega))
theorem Sti.whole {m q d i j n b z M K:Nat} {X t:Int} (h:Sti m q d i j n b z M K X) {D:Nat} (hD:(D:Int) = t+(j:Int) - (i:Int)+1) (hD2:2≤D):t≤X↔d * 2 ^ (D - 1) ∣ n:=by
 have hX:=h.hX
 have hA:=h.hA
 have hpos:∀ k,0 < 2 ^ k:=fun k=>Nat.pow_pos (by omega)
 have hdm:=Nat.div_add_mod n d
 constructor
 ·intro ht
  obtain ⟨y,rfl⟩:∃ y,z = y+D:=⟨z - D,by omega⟩
  obtain ⟨D1,rfl⟩:∃ D1,D = D1+1:=⟨D - 1,by omega⟩
  have e:M * 2 ^ (y+(D1+1)) = 2 * (2 ^ D1 * (M * 2 ^ y)):=by rw [Nat.pow_add,Nat.pow_succ]; ac_rfl
  rw [e] at hA
  by_cases hz:n % d = 0
  ·rw [if_pos hz] at hA
   refine ⟨M * 2 ^ y,?_⟩
   rw [show D1+1 - 1 = D1 from by omega,Nat.mul_assoc,← Nat.eq_of_mul_eq_mul_left (show 0 < 2 by omega) hA]
   omega
  ·rw [if_neg hz] at hA; omega
 ·intro ⟨c,hc⟩
  obtain ⟨D1,rfl⟩:∃ D1,D = D1+1:=⟨D - 1,by omega⟩
  rw [show D1+1 - 1 = D1 from by omega,Nat.mul_assoc] at hc
  rw [hc,Nat.mul_mod_right,if_pos rfl,Nat.mul_div_cancel_left _ h.hd] at hA
  refine Int.not_lt.1 fun hlt=>?_
  obtain ⟨y,hy⟩:∃ y,D1+1 = z+(y+1):=⟨D1 - z,by omega⟩
  have e:2 * (2 ^ D1 * c) = 2 * (2 ^ y * c) * 2 ^ z:=by
   have e0:2 ^ D1 * 2 = 2 ^ z * (2 ^ y * 2):=by rw [← Nat.pow_succ,← Nat.pow_succ,← Nat.pow_add]; exact congrArg (2 ^ ·) hy
   have e1:2 * (2 ^ D1 * c) = 2 ^ D1 * 2 * c:=by ac_rfl
   rw [e1,e0]; ac_rfl
  rw [e] at hA
  have:=Nat.eq_of_mul_eq_mul_right (hpos z) hA
  have:=h.ho
  omega
theorem dvd_cross {a N a' N':Nat} (hN:0 < N) (h:a * N' = a' * N) (hd:N ∣ a):N' ∣ a':=by
 obtain ⟨c,rfl⟩:=hd
 refine ⟨c,Nat.eq_of_mul_eq_mul_right hN ?_⟩
 rw [← h]; ac_rfl
theorem Sti.same {m q d i j n b z M K:Nat} {X:Int} {m' q' d' i' j' n' b' z' M' K':Nat} {X':Int} (h:Sti m q d i j n b z M K X) (h':Sti m' q' d' i' j' n' b' z' M' K' X') (B F I md:Nat) (s:Bool) (hF:F≤52) (he:m * q' = m' * q):rowR B F md s M K X = rowR B F md s M' K' X'∧flagR B F I md s M K X = flagR B F I md s M' K' X':=by
 have hpos:∀ k,0 < 2 ^ k:=fun k=>Nat.pow_pos (by omega)
 have ee:X+(K:Int) - 1 = X'+(K':Int) - 1:=Int.le_antisymm (h.le h' (Nat.le_of_eq he)) (h'.le h (Nat.le_of_eq he.symm))
 have cc:∀ t:Int,X+(K:Int) - 1 - 52≤t→cutR md s M X t = cutR md s M' X' t:=fun t ht=>Nat.le_antisymm (h.cut_le h' md s ht (by omega) (Nat.le_of_eq he)) (h'.cut_le h md s (by omega) ht (Nat.le_of_eq he.symm))
 have hl:lastP B F K X = lastP B F K' X':=by unfold lastP; omega
 have hlt:X+(K:Int) - 1 - 52≤lastP B F K X:=by unfold lastP; omega
 have hrow:rowR B F md s M K X = rowR B F md s M' K' X':=by unfold rowR; rw [cc _ hlt,hl]
 have hfree:freeR F md s M K X = freeR F md s M' K' X':=by unfold freeR; rw [cc _ (by omega),ee]
 have hw:lastP B F K X≤X↔lastP B F K' X'≤X':=by
  obtain ⟨D,hD,hD2,-⟩:=h.cut md s hlt
  obtain ⟨D',hD',hD2',-⟩:=h'.cut md s (t:=lastP B F K X) (by omega)
  rw [← hl,h.whole hD hD2,h'.whole hD' hD2']
  have x1:=cross_pow h.hn h'.hn h.hq h'.hq (Nat.le_of_eq he) (D:=D - 1) (D':=D' - 1) (by omega)
  have x2:=cross_pow h'.hn h.hn h'.hq h.hq (Nat.le_of_eq he.symm) (D:=D' - 1) (D':=D - 1) (by omega)
  have x:=Nat.le_antisymm x1 x2
  exact ⟨dvd_cross (Nat.mul_pos h.hd (hpos _)) x,dvd_cross (Nat.mul_pos h'.hd (hpos _)) x.symm⟩
 refine ⟨hrow,?_⟩
 unfold flagR
 rw [hrow,hfree]
 by_cases h1:lastP B F K X≤X
 ·rw [if_pos h1,if_pos (hw.1 h1)]
 ·rw [if_neg h1,if_neg (fun q=>h1 (hw.2 q))]
theorem pos_blen {m:Nat} (h:0 < m):2 ^ (blen m - 1)≤m∧blen m≠0:=by
 have hb:=bl_blen m
 have h0:blen m≠0:=fun e=>by have:=hb.1; rw [e] at this; simp at this; omega
 exact ⟨hb.2.resolve_left h0,h0⟩
theorem gbits {m u d v:Nat} (h0:0 < m) (hu:0 < u) (hd:0 < d) (hv:0 < v):60≤blen (gAll m u d v / (d * v)):=by
 have h1:0 < sOne m d:=Nat.mul_pos h0 (Nat.pow_pos (by omega))
 have a1:=pos_blen h1
 have a2:=pos_blen hu
 have hdv:d * v≤2 ^ (blen d+blen v):=by rw [Nat.pow_add]; exact Nat.mul_le_mul (Nat.le_of_lt (bl_blen d).1) (Nat.le_of_lt (bl_blen v).1)
 have h2:2 ^ (60+(blen d+blen v))≤gAll m u d v:=by
  unfold gAll
  refine Nat.le_trans ?_ (Nat.mul_le_mul a1.1 (Nat.mul_le_mul_right _ a2.1))
  rw [← Nat.pow_add,← Nat.pow_add]
  exact Nat.pow_le_pow_right (by omega) (by unfold gMore; omega)
 have h3:2 ^ 60≤gAll m u d v / (d * v):=by
  rw [Nat.le_div_iff_mul_le (Nat.mul_pos hd hv)]
  refine Nat.le_trans (Nat.mul_le_mul_left _ hdv) ?_
  rw [← Nat.pow_add]; exact h2
 have:=(bl_blen (gAll m u d v / (d * v))).gt_of h3
 omega
theorem gAll_is (m u d v:Nat):gAll m u d v = m * u * 2 ^ (sLift m d+gMore m u d v):=by
 unfold gAll sOne
 rw [Nat.pow_add]; ac_rfl
theorem gAns_tz {m u d v:Nat} (h0:0 < m) (hu:0 < u) (hd:0 < d) (hv:0 < v) (bm:blen m≤100000) (bd:blen d≤100000) (bu:blen u≤10) (bv:blen v≤10) (hr:blen d≤blen m+4096):∃ z q,gAns m u d v = 2 ^ z * (2 * q+1)∧z≤300000:=by
 obtain ⟨K,hK⟩:∃ K,K = 210000:=⟨_,rfl⟩
 have hl:sLift m d≤4096:=by unfold sLift; omega
 have hmo:gMore m u d v≤100075:=by unfold gMore; omega
 have hall:gAll m u d v < 2 ^ K:=by
  rw [gAll_is]
  refine Nat.lt_of_lt_of_le (Nat.mul_lt_mul_of_pos_right (Nat.mul_lt_mul_of_lt_of_le (bl_blen m).1 (Nat.le_of_lt (bl_blen u).1) (Nat.pow_pos (by omega))) (Nat.pow_pos (by omega))) ?_
  rw [← Nat.pow_add,← Nat.pow_add]
  exact Nat.pow_le_pow_right (by omega) (by omega)
 have hdv:0 < d * v:=Nat.mul_pos hd hv
 generalize hD:d * v = D at hdv
 generalize hA:gAll m u d v = T at hall
 have hpos:0 < T:=by rw [← hA,gAll_is]; exact Nat.mul_pos (Nat.mul_pos h0 hu) (Nat.pow_pos (by omega))
 have hdm:=Nat.div_add_mod T D
 have hdl:T / D≤T:=Nat.div_le_self _ _
 have ha:gAns m u d v = if T % D = 0 then 2 * (T / D) else 2 * (T / D)+1:=by unfold gAns; rw [hA,hD]
 rw [ha]
 have a1:0 < (if T % D = 0 then 2 * (T / D) else 2 * (T / D)+1):=by
  split
  ·next e=>
   rw [e] at hdm
   rcases Nat.eq_zero_or_pos (T / D) with q|q
   ·rw [q] at hdm; omega
   ·omega
  ·omega
 have a2:(if T % D = 0 then 2 * (T / D) else 2 * (T / D)+1) < 2 ^ (K+1):=by
  rw [Nat.pow_succ]
  split <;> omega
 obtain ⟨z,⟨q,hq⟩,hz⟩:=tz_ex a1 a2
 exact ⟨z,q,hq,by omega⟩
theorem gsti_p {m d z q K:Nat} (h0:0 < m) (hd:0 < d) (hz:gAns m 5 d 1 = 2 ^ z * (2 * q+1)) (hK:Bl (2 * q+1) K):Sti (m * 10) d (d * 1) 1 (sLift m d+gMore m 5 d 1) (gAll m 5 d 1) (blen (gAll m 5 d 1 / (d * 1))) z (2 * q+1) K (gExp 1 m 5 d 1+(z:Int)):=by
 refine ⟨?_,by omega,by omega,by unfold gAns at hz; rw [hz,Nat.mul_comm],by omega,hK,bl_blen _,gbits h0 (by omega) hd (by omega),by unfold gExp; omega⟩
 rw [gAll_is]
 rw [Nat.pow_one,Nat.mul_one,show m * 10 = m * 5 * 2 from by omega]; ac_rfl
theorem sscaled_p {E F S I B md:Nat} (h:Fm E F S I) (hB:B = 2 ^ (E - 1) - 1) (hm:md≤4) (ng s:Bool) (a b:Option Addr) (n c k l m d:Nat) (w:World) (hT:Tb w) (h1:Num w a n m) (h2:Num w b k d) (h0:0 < m) (hd:0 < d) (bm:blen m≤100000) (bd:blen d≤100000) (hr1:blen d≤blen m+4000) (hr2:blen m≤blen d+4000)
  (HC:Hid (∀ W:World,Num W a n m→Num W b k d→Calls Tryz.prog 24 #[.agg #[.bool s,.slice a n c,.slice b k l]] W fun e W'=>e = .returned (.int .i64 0)∧Below W.heap.size W W')) (z q K:Nat) (hq:gAns m 5 d 1 = 2 ^ z * (2 * q+1)) (hz2:z≤300000) (hK:Bl (2 * q+1) K) :
  Calls Tryz.prog 11 #[.agg #[.int .i64 E,.int .i64 F],.agg #[.bool s,.slice a n c,.slice b k l],.int .i64 1,.bool ng,.int .u8 (md:Int)] w fun e w'=>e = .returned (.tuple #[.int .u64 (bitsR S I md s (rowR B F md s (2 * q+1) K (gExp 1 m 5 d 1+(z:Int))):Int),.int .u8 (flagR B F I md s (2 * q+1) K (gExp 1 m 5 d 1+(z:Int)):Int),.int .i64 0])∧Below w.heap.size w w':=by
 have b5:blen 5 = 3:=by decide
 have b1:blen 1 = 1:=by decide
 have hX2:-204300≤gExp 1 m 5 d 1∧gExp 1 m 5 d 1≤1:=by unfold gExp sLift gMore; omega
 have hdiv:gAns m 5 d 1 / 2 ^ z = 2 * q+1:=by rw [hq,Nat.mul_div_cancel_left _ (Nat.pow_pos (by omega))]
 obtain ⟨X,hX⟩:∃ X:Int,gExp 1 m 5 d 1+(z:Int) = X:=⟨_,rfl⟩
 rw [hX]
 refine sscaled_is_p w E F md s ng a b n c k l m d X (2 * q+1) _ _ h.fo hm hT h1 h2 HC (hide fun W t9 r1 r2=>?_) (hide fun W B9 A N C g=>?_)
 ·refine sstand_is_p W s a b n c k l m d (blen m) (blen d) ((blen m:Int) - (blen d:Int)+3) (gExp 1 m 5 d 1) X (gAns m 5 d 1) (2 * q+1) t9 r1 r2 (by omega) (by omega) (by omega) rfl (by omega) (by omega) (hide (hbits m)) (hide (hbits d)) (hide hpow1) (hide fun W p A N C A' N' C' x1 x2 x3 x4 x5=>gfirst_any 1 (by decide) (by decide) W p a A b A' n N k N' c C l C' m 5 d 1 x1 x2 x3 x4 x5 hd (by omega) bm bd (by omega) (by omega) (by omega)) (hide fun W B9 A N C t8 g=>?_)
  obtain ⟨g1,g2⟩:=mine_caps g
  have:=make_ok s A N C (gAns m 5 d 1) z (gExp 1 m 5 d 1) W g.num (by rw [hq]; exact Nat.mul_pos (Nat.pow_pos (by omega)) (by omega)) t8 ⟨q,hq⟩ (by omega) g1 g2 (by omega)
  rw [hdiv,hX] at this
  exact this
 ·exact rounded_any h hB hm ng s A N C (2 * q+1) K X W B9 g ⟨by omega,by omega,by omega⟩ hK
theorem sti_dy {p q M K a c:Nat} {X:Int} (ho:M % 2 = 1) (hK:Bl M K) (hq:0 < q) (h:M * 2 ^ a * q = p * 2 ^ c) (hX:X = (a:Int) - (c:Int)):Sti p q 1 a (c+60) (M * 2 ^ 60) (K+60) 61 M K X:=by
 have hM:0 < M:=by omega
 have h1:=hK.two (z:=60) hM
 refine ⟨?_,hq,by omega,?_,ho,hK,?_,by omega,by rw [hX]; omega⟩
 ·have e:M * 2 ^ 60 * q * 2 ^ a = M * 2 ^ a * q * 2 ^ 60:=by ac_rfl
  rw [e,h,Nat.pow_add]; ac_rfl
 ·rw [Nat.mod_one,if_pos rfl,Nat.div_one,Nat.pow_succ]; ac_rfl
 ·rw [Nat.div_one,Nat.mul_comm]; exact h1
theorem sstand_0 (w:World) (s:Bool) (a b:Option Addr) (n c k l:Nat) (h1:Num w a n 0) :
  Calls Tryz.prog 35 #[.agg #[.bool s,.slice a n c,.slice b k l],.int .i64 0] w fun en w'=>en = .returned (.tuple #[.agg #[.bool false,.slice none 0 0,.int .i64 0],.int .i64 0])∧Below w.heap.size w w':=by
 refine calls_sym Tryz.func35 rfl (by kernel_rfl) fun T hK=>?_
 replace hK:Kn T _ [(0,.agg #[.bool s,.slice a n c,.slice b k l]),(1,.int .i64 0)]:=hK
 have hS:=Fb.begin w
 have hG:GsAt [gN a n 0] w:=⟨h1,trivial⟩
 refine wp_symQ hS hG hK (fun p1=>[.n 2 #[.bool s,.slice a n c,.slice b k l] 35,.n 4 #[.bool false,.slice none 0 0,.int .i64 0] 30,.v 5 (.int .i64 0)]) (fun p1=>[(1,.int .i64 0),(2,.pointer (some ⟨(p1 0).N,0,none⟩)),(4,.pointer (some ⟨(p1 1).N,0,none⟩)),(5,.int .i64 0)]) (by kernel_rfl) (fun _ _=>by kernel_rfl) (fun _=>by kernel_rfl) (fun _=>by kernel_rfl) (fun p1=>?_) (fun p1 W1 T hF hK=>?_)
 ·iterate 2 refine ok_n (fun _=>by kernel_rfl) ?_
  refine ok_v (by kernel_rfl) ?_
  exact ok_nil
 replace hS:=SymF.fb hS hF [1000,1001] [⟨(p1 0).N,#[.bool s,.slice a n c,.slice b k l],35,true⟩,⟨(p1 1).N,#[.bool false,.slice none 0 0,.int .i64 0],30,true⟩] (by kernel_rfl) (by kernel_rfl)
 replace hG:=hF.gx
 clear hF
 have z1:=hS.fr.size
 refine wp_seq ?_
 refine wp_symQ hS hG hK (fun p2=>[.v 10 (.pointer (some ⟨(p1 0).N,1,none⟩)),.l 11 (.agg #[.slice a n c]) 0 1,.c (some 12) (cV (.bool true))]) (fun p2=>[(1,.int .i64 0),(2,.pointer (some ⟨(p1 0).N,0,none⟩)),(4,.pointer (some ⟨(p1 1).N,0,none⟩)),(5,.int .i64 0),(12,.bool true)]) (by kernel_rfl) (fun _ _=>by kernel_rfl) (fun _=>by kernel_rfl) (fun _=>by kernel_rfl) (fun p2=>?_) (fun p2 W2 T hF hK=>?_)
 ·refine ok_v (by kernel_rfl) ?_
  refine ok_L (by kernel_rfl) (by kernel_rfl) (by kernel_rfl) ?_
  refine ok_c (fun W cx=>as_v (snought a _ c _ _ (Num.isz (cx.G.1) rfl))) (by kernel_rfl) ?_
  exact ok_nil
 replace hS:=SymF.fb hS hF [0,1] [⟨(p1 0).N,#[.bool s,.slice a n c,.slice b k l],35,true⟩,⟨(p1 1).N,#[.bool false,.slice none 0 0,.int .i64 0],30,true⟩] (by kernel_rfl) (by kernel_rfl)
 replace hG:=hF.gx
 clear hF
 have z2:=hS.fr.size
 refine wp_cond_true (hK.ev 12 (by kernel_rfl) _ (by kernel_rfl)) ?_
 refine wp_symQ hS hG hK (fun p3=>[.v 13 (.agg #[.bool false,.slice none 0 0,.int .i64 0]),.p 1 0 [.bool false,.slice none 0 0,.int .i64 0],.v 5 (.int .i64 0)]) (fun p3=>[(1,.int .i64 0),(2,.pointer (some ⟨(p1 0).N,0,none⟩)),(4,.pointer (some ⟨(p1 1).N,0,none⟩)),(5,.int .i64 0),(12,.bool true)]) (by kernel_rfl) (fun _ _=>by kernel_rfl) (fun _=>by kernel_rfl) (fun _=>by kernel_rfl) (fun p3=>?_) (fun p3 W3 T hF hK=>?_)
 ·refine ok_v (by kernel_rfl) ?_
  refine ok_P (by kernel_rfl) (by kernel_rfl) (by kernel_rfl) ?_
  refine ok_v (by kernel_rfl) ?_
  exact ok_nil
 replace hS:=SymF.fb hS hF [0,1] [⟨(p1 0).N,#[.bool s,.slice a n c,.slice b k l],35,true⟩,⟨(p1 1).N,#[.bool false,.slice none 0 0,.int .i64 0],30,true⟩] (by kernel_rfl) (by kernel_rfl)
 replace hG:=hF.gx
 clear hF
 have z3:=hS.fr.size
 refine wp_ret ?_
 refine then_r ?_
 exact sym_end hS hK (.tuple #[.agg #[.bool false,.slice none 0 0,.int .i64 0],.int .i64 0]) [(1,0,3)] [.bool false,.slice none 0 0,.int .i64 0] (by kernel_rfl) (by kernel_rfl) ⟨rfl,hS.fr⟩
def nmL (j:Nat):List UInt8:=match j with
 | 0=>[101,118,101,110]
 | 1=>[97,119,97,121]
 | 2=>[122,101,114,111]
 | 3=>[117,112]
 | _=>[100,111,119,110]
structure Nb5 (w:World):Prop where
 lt:0 < w.heap.size
 c0:w.cell? ⟨0,0,none⟩ = some (.string ⟨#[101,118,101,110]⟩)
 c1:w.cell? ⟨0,1,none⟩ = some (.string ⟨#[97,119,97,121]⟩)
 c2:w.cell? ⟨0,2,none⟩ = some (.string ⟨#[122,101,114,111]⟩)
 c3:w.cell? ⟨0,3,none⟩ = some (.string ⟨#[117,112]⟩)
 c4:w.cell? ⟨0,4,none⟩ = some (.string ⟨#[100,111,119,110]⟩)
theorem Nb5.kept {w w':World} (h:Nb5 w) (hb:Below w.heap.size w w'):Nb5 w':=
 ⟨Nat.lt_of_lt_of_le h.lt hb.size,(hb.cell (p:=⟨0,0,none⟩) h.lt).trans h.c0,(hb.cell (p:=⟨0,1,none⟩) h.lt).trans h.c1,(hb.cell (p:=⟨0,2,none⟩) h.lt).trans h.c2,(hb.cell (p:=⟨0,3,none⟩) h.lt).trans h.c3,(hb.cell (p:=⟨0,4,none⟩) h.lt).trans h.c4⟩
theorem named_1 (s:ByteArray) (w:World) (h:Nb5 w) (e0:(([101,118,101,110]:List UInt8) == s.toList) = false) (e1:(([97,119,97,121]:List UInt8) == s.toList) = true) :
  Calls Tryz.prog 16 #[.string s] w fun e w'=>e = .returned (.tuple #[.int .u8 1,.bool true])∧Below w.heap.size w w':=by
 obtain ⟨-,c0,c1,c2,c3,c4⟩:=h
 have x0:∀ v:World,(Instr.index 102 (.agg #[.string ⟨#[101,118,101,110]⟩,.string ⟨#[97,119,97,121]⟩,.string ⟨#[122,101,114,111]⟩,.string ⟨#[117,112]⟩,.string ⟨#[100,111,119,110]⟩]) (.int .i64 0)).run Tryz.prog v = .ok (.string ⟨#[101,118,101,110]⟩) v:=fun _=>by kernel_rfl
 have x1:∀ v:World,(Instr.index 102 (.agg #[.string ⟨#[101,118,101,110]⟩,.string ⟨#[97,119,97,121]⟩,.string ⟨#[122,101,114,111]⟩,.string ⟨#[117,112]⟩,.string ⟨#[100,111,119,110]⟩]) (.int .i64 1)).run Tryz.prog v = .ok (.string ⟨#[97,119,97,121]⟩) v:=fun _=>by kernel_rfl
 go_enter Tryz.func16,Tryz.ntmps16
 go_wp2_with fail
 refine wp_loop_rounds 6 ?_
 rw [rounds_succ]
 go_wp2
 rw [rounds_succ]
 go_wp2
 go_ret2
 exact ⟨rfl,Below.refl _ _⟩
theorem worth_row {E F B ex fr M z k:Nat} {xe:Int} (h:Wo E F B ex fr M z xe) (hk:Bl (M / 2 ^ z) k) (md:Nat) (s:Bool) :
  rowR B F md s (M / 2 ^ z) k (xe+(z:Int)) = ex * 2 ^ F+fr∧lastP B F k (xe+(z:Int))≤xe+(z:Int):=by
 obtain ⟨hk0,hk1,hk2⟩:=h.bits hk
 have hodd:=h.odd
 have hlast:lastP B F k (xe+(z:Int)) = xe:=by
  unfold lastP
  rcases h.part with ⟨h0,hM,hf,hx⟩|⟨h0,hM,hx⟩
  ·have:=hk1 h0; omega
  ·have:=hk2 h0; omega
 refine ⟨?_,by rw [hlast]; omega⟩
 unfold rowR cutR
 rw [hlast,if_pos (by omega),show (xe+(z:Int) - xe).toNat = z from by omega,hodd.2]
 rcases h.part with ⟨h0,hM,hf,hx⟩|⟨h0,hM,hx⟩
 ·rw [show (xe - (1 - (B:Int) - (F:Int))).toNat = 0 from by omega,hM,h0]
 ·obtain ⟨e,rfl⟩:∃ e,ex = e+1:=⟨ex - 1,by omega⟩
  rw [show (xe - (1 - (B:Int) - (F:Int))).toNat = e from by omega,hM,Nat.add_mul,Nat.one_mul]
  omega
theorem Fm.finlt {E F S I ex fr:Nat} (h:Fm E F S I) (hx:ex+1 < 2 ^ E) (hf:fr < 2 ^ F):ex * 2 ^ F+fr < I:=by
 rw [h.hI]
 have h1:(ex+1) * 2 ^ F≤(2 ^ E - 1) * 2 ^ F:=Nat.mul_le_mul_right _ (by omega)
 rw [Nat.add_mul,Nat.one_mul] at h1
 omega
theorem worth_round {E F S I B b ex fr M z k:Nat} {s:Bool} {xe:Int} (h:Fm E F S I) (hB:Bt E F b s ex fr) (hW:Wo E F B ex fr M z xe) (hk:Bl (M / 2 ^ z) k) (md:Nat) :
  bitsR S I md s (rowR B F md s (M / 2 ^ z) k (xe+(z:Int))) = b∧flagR B F I md s (M / 2 ^ z) k (xe+(z:Int)) = 0:=by
 obtain ⟨h1,h2⟩:=worth_row hW hk md s
 have hlt:=h.finlt hW.fin hW.frl
 constructor
 ·unfold bitsR
  rw [h1,if_pos hlt,hB.eq,h.hS]
  cases s <;> simp
 ·unfold flagR
  rw [h1,if_neg (by omega),if_pos h2]
theorem rdyadic_zero {E F S I md:Nat} (h:Fm E F S I) (hm:md≤4) (ng:Bool) (a:Option Addr) (n cap:Nat) (W:World) (Bs:Nat) (g:Mine W Bs a n cap 0) :
  Calls Tryz.prog 10 #[.agg #[.int .i64 E,.int .i64 F],.agg #[.bool false,.slice a n cap,.int .i64 0],.bool ng,.int .u8 (md:Int)] W fun e w'=>e = .returned (.tuple #[.int .u64 ((if ng then S else 0:Nat):Int),.int .u8 0,.int .i64 0])∧Below W.heap.size W w':=by
 obtain rfl:=g.num.zero.2 rfl
 refine rdyadic_is E F md h.fo hm false a 0 cap 0 0 ng _ 0 W Bs g (hide fun W g=>dcheck_dy false a 0 cap 0 0 W ⟨g,Or.inl ⟨rfl,rfl,rfl⟩⟩) (hide fun W _=>rounded_nought E F _ md ng h.fo a cap W ?_)
 exact ⟨pow_pos2 _,pow_pos2 _,by rw [← h.hS]; cases ng <;> simp⟩
end Go.Proofs.YtbbhlfngjoongaaGreatDoor
