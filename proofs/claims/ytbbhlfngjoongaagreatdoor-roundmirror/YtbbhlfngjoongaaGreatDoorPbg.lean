/- Of what RoundMirrorRow stands on: SScale. -/
import Derived.Test.YtbbhlfngjoongaaGreatDoorPbf
import Derived.Test.YtbbhlfngjoongaaGreatDoorPau
import Derived.Test.YtbbhlfngjoongaaGreatDoorPaf
namespace Go.Proofs.YtbbhlfngjoongaaGreatDoor
open Go.RowKit
set_option maxHeartbeats 2000000
set_option maxRecDepth 20000
theorem sclone (a:Option Addr) (n c m:Nat) (w:World) (h:Num w a n m):Calls Tryz.prog 64 #[.slice a n c] w fun e w'=>(∃ a' n' c',e = .returned (.slice a' n' c')∧Mine w' w.heap.size a' n' c' m)∧Below w.heap.size w w':=
 (clone_any a n c m w h).mono fun _ _ ⟨⟨a',c',h1,h2⟩,hb⟩=>⟨⟨a',n,c',h1,h2⟩,hb⟩
theorem rnought_c (a:Option Addr) (n c:Nat) (w:World) (b:Bool) (h:decide (n = 0) = b):Calls Tryz.prog 26 #[.agg #[.slice a n c]] w fun e w'=>e = .returned (.bool b)∧Below w.heap.size w w':=by
 subst h; exact nought_any a n c w
theorem slen10 (w:World):Calls Tryz.prog 65 #[.int .u32 10] w fun e w'=>e = .returned (.int .i64 4)∧Below w.heap.size w w':=
 (len32_int 10 w (by decide) (by decide)).mono fun e w' ⟨h1,h2⟩=>⟨by rw [h1]; rfl,by rw [← h2]; exact gr_refl _⟩
theorem spow10 (w:World):Calls Tryz.prog 66 #[.int .u32 10,.int .i64 1] w fun en w'=>(∃ a n c,en = .returned (.tuple #[.agg #[.slice a n c],.int .i64 0])∧Mine w' w.heap.size a n c 10)∧Below w.heap.size w w':=by
 have:=pow_any 10 1 w (by omega) (by omega)
 exact this.mono fun _ _ ⟨h1,hb⟩=>⟨ans_ok h1 (no_over (K:=4) (by decide) (by omega)),hb⟩
theorem scopied_is (w:World) (s:Bool) (a b:Option Addr) (n c k l x y:Nat) (t:Bool) (h1:Num w a n x) (h2:Num w b k y) :
  Calls Tryz.prog 27 #[.bool t,.agg #[.bool s,.slice a n c,.slice b k l]] w fun en w'=>(∃ A N C A' N' C',en = .returned (.agg #[.bool t,.slice A N C,.slice A' N' C'])∧Mine w' w.heap.size A N C x∧Mine w' w.heap.size A' N' C' y)∧Below w.heap.size w w':=by
 refine calls_sym Tryz.func27 rfl (by kernel_rfl) fun T hK=>?_
 replace hK:Kn T _ [(0,.bool t),(1,.agg #[.bool s,.slice a n c,.slice b k l])]:=hK
 have hS:=Fb.begin w
 have hG:GsAt [gN a n x,gN b k y] w:=⟨h1,h2,trivial⟩
 refine wp_symQ hS hG hK (fun p1=>[.n 3 #[.bool s,.slice a n c,.slice b k l] 35,.n 4 #[.bool false,.slice none 0 0,.slice none 0 0] 35]) (fun p1=>[(0,.bool t),(3,.pointer (some ⟨(p1 0).N,0,none⟩)),(4,.pointer (some ⟨(p1 1).N,0,none⟩))]) (by kernel_rfl) (fun _ _=>by kernel_rfl) (fun _=>by kernel_rfl) (fun _=>by kernel_rfl) (fun p1=>?_) (fun p1 W1 T hF hK=>?_)
 ·iterate 2 refine ok_n (fun _=>by kernel_rfl) ?_
  exact ok_nil
 replace hS:=SymF.fb hS hF [1000,1001] [⟨(p1 0).N,#[.bool s,.slice a n c,.slice b k l],35,true⟩,⟨(p1 1).N,#[.bool false,.slice none 0 0,.slice none 0 0],35,true⟩] (by kernel_rfl) (by kernel_rfl)
 replace hG:=hF.gx
 clear hF
 have z1:=hS.fr.size
 refine wp_symQ hS hG hK (fun p2=>[.v 5 (.bool t),.v 6 (.pointer (some ⟨(p1 0).N,1,none⟩)),.v 7 (.pointer (some ⟨(p1 0).N,1,none⟩)),.l 8 (.slice a n c) 0 1,.c (some 9) (cG W1.heap.size x fun x9=>x9),.v 10 (.agg #[.slice (p2 4).A (p2 4).N (p2 4).C]),.v 11 (.pointer (some ⟨(p1 0).N,2,none⟩)),.v 12 (.pointer (some ⟨(p1 0).N,2,none⟩)),.l 13 (.slice b k l) 0 2,.c (some 14) (cG W1.heap.size y fun x9=>x9),.v 15 (.agg #[.slice (p2 9).A (p2 9).N (p2 9).C]),.v 16 (.agg #[.bool t,.slice (p2 4).A (p2 4).N (p2 4).C,.slice (p2 9).A (p2 9).N (p2 9).C]),.p 1 0 [.bool t,.slice (p2 4).A (p2 4).N (p2 4).C,.slice (p2 9).A (p2 9).N (p2 9).C]]) (fun p2=>[(4,.pointer (some ⟨(p1 1).N,0,none⟩))]) (by kernel_rfl) (fun _ _=>by kernel_rfl) (fun _=>by kernel_rfl) (fun _=>by kernel_rfl) (fun p2=>?_) (fun p2 W2 T hF hK=>?_)
 ·iterate 3 refine ok_v (by kernel_rfl) ?_
  refine ok_L (by kernel_rfl) (by kernel_rfl) (by kernel_rfl) ?_
  refine ok_c (fun W cx=>as_g cx.hb (sclone _ _ c x _ (cx.G.1))) (by kernel_rfl) ?_
  iterate 3 refine ok_v (by kernel_rfl) ?_
  refine ok_L (by kernel_rfl) (by kernel_rfl) (by kernel_rfl) ?_
  refine ok_c (fun W cx=>as_g cx.hb (sclone _ _ l y _ (cx.G.2.1))) (by kernel_rfl) ?_
  iterate 2 refine ok_v (by kernel_rfl) ?_
  refine ok_P (by kernel_rfl) (by kernel_rfl) (by kernel_rfl) ?_
  exact ok_nil
 replace hS:=SymF.fb hS hF [1] [⟨(p1 1).N,#[.bool t,.slice (p2 4).A (p2 4).N (p2 4).C,.slice (p2 9).A (p2 9).N (p2 9).C],35,true⟩] (by kernel_rfl) (by kernel_rfl)
 replace hG:GsAt (gM W1.heap.size (p2 4).A (p2 4).N (p2 4).C x :: gM W1.heap.size (p2 9).A (p2 9).N (p2 9).C y :: _) W2:=⟨hF.fx 4,hF.fx 9,hF.gx⟩
 clear hF
 have z2:=hS.fr.size
 refine wp_ret ?_
 exact sym_end hS hK (.agg #[.bool t,.slice (p2 4).A (p2 4).N (p2 4).C,.slice (p2 9).A (p2 9).N (p2 9).C]) [(0,0,3)] [.bool t,.slice (p2 4).A (p2 4).N (p2 4).C,.slice (p2 9).A (p2 9).N (p2 9).C] (by kernel_rfl) (by kernel_rfl) ⟨⟨_,_,_,_,_,_,rfl,Mine.mono hG.1 z1,Mine.mono hG.2.1 z1⟩,hS.fr⟩
theorem sneg_t (w:World) (a b:Option Addr) (n c k l x y:Nat) (h1:Num w a n x) (h2:Num w b k y) (HC:Hid (∀ W:World,Num W a n x→Num W b k y→Calls Tryz.prog 24 #[.agg #[.bool true,.slice a n c,.slice b k l]] W fun e W'=>e = .returned (.int .i64 0)∧Below W.heap.size W W')) :
  Calls Tryz.prog 13 #[.agg #[.bool true,.slice a n c,.slice b k l]] w fun en w'=>(∃ A N C A' N' C',en = .returned (.tuple #[.agg #[.bool false,.slice A N C,.slice A' N' C'],.int .i64 0])∧Mine w' w.heap.size A N C x∧Mine w' w.heap.size A' N' C' y)∧Below w.heap.size w w':=by
 refine calls_sym Tryz.func13 rfl (by kernel_rfl) fun T hK=>?_
 replace hK:Kn T _ [(0,.agg #[.bool true,.slice a n c,.slice b k l])]:=hK
 have hS:=Fb.begin w
 have hG:GsAt [gN a n x,gN b k y] w:=⟨h1,h2,trivial⟩
 refine wp_symQ hS hG hK (fun p1=>[.n 1 #[.bool true,.slice a n c,.slice b k l] 35,.n 2 #[.bool false,.slice none 0 0,.slice none 0 0] 35,.v 3 (.int .i64 0)]) (fun p1=>[(1,.pointer (some ⟨(p1 0).N,0,none⟩)),(2,.pointer (some ⟨(p1 1).N,0,none⟩)),(3,.int .i64 0)]) (by kernel_rfl) (fun _ _=>by kernel_rfl) (fun _=>by kernel_rfl) (fun _=>by kernel_rfl) (fun p1=>?_) (fun p1 W1 T hF hK=>?_)
 ·iterate 2 refine ok_n (fun _=>by kernel_rfl) ?_
  refine ok_v (by kernel_rfl) ?_
  exact ok_nil
 replace hS:=SymF.fb hS hF [1000,1001] [⟨(p1 0).N,#[.bool true,.slice a n c,.slice b k l],35,true⟩,⟨(p1 1).N,#[.bool false,.slice none 0 0,.slice none 0 0],35,true⟩] (by kernel_rfl) (by kernel_rfl)
 replace hG:=hF.gx
 clear hF
 have z1:=hS.fr.size
 refine wp_seq ?_
 refine wp_symQ hS hG hK (fun p2=>[.l 5 (.agg #[.bool true,.slice a n c,.slice b k l]) 0 0,.c (some 6) (cV (.int .i64 0)),.v 4 (.int .i64 0)]) (fun p2=>[(1,.pointer (some ⟨(p1 0).N,0,none⟩)),(2,.pointer (some ⟨(p1 1).N,0,none⟩)),(3,.int .i64 0),(4,.int .i64 0)]) (by kernel_rfl) (fun _ _=>by kernel_rfl) (fun _=>by kernel_rfl) (fun _=>by kernel_rfl) (fun p2=>?_) (fun p2 W2 T hF hK=>?_)
 ·refine ok_L (by kernel_rfl) (by kernel_rfl) (by kernel_rfl) ?_
  refine ok_c (fun W cx=>as_v (unhide HC _ (cx.G.1) (cx.G.2.1))) (by kernel_rfl) ?_
  refine ok_v (by kernel_rfl) ?_
  exact ok_nil
 replace hS:=SymF.fb hS hF [0,1] [⟨(p1 0).N,#[.bool true,.slice a n c,.slice b k l],35,true⟩,⟨(p1 1).N,#[.bool false,.slice none 0 0,.slice none 0 0],35,true⟩] (by kernel_rfl) (by kernel_rfl)
 replace hG:=hF.gx
 clear hF
 have z2:=hS.fr.size
 refine wp_symQ hS hG hK (fun p3=>[.v 7 (.int .i64 0),.v 8 (.bool false)]) (fun p3=>[(1,.pointer (some ⟨(p1 0).N,0,none⟩)),(2,.pointer (some ⟨(p1 1).N,0,none⟩)),(3,.int .i64 0),(4,.int .i64 0),(8,.bool false)]) (by kernel_rfl) (fun _ _=>by kernel_rfl) (fun _=>by kernel_rfl) (fun _=>by kernel_rfl) (fun p3=>?_) (fun p3 W3 T hF hK=>?_)
 ·iterate 2 refine ok_v (by kernel_rfl) ?_
  exact ok_nil
 replace hS:=SymF.fb hS hF [0,1] [⟨(p1 0).N,#[.bool true,.slice a n c,.slice b k l],35,true⟩,⟨(p1 1).N,#[.bool false,.slice none 0 0,.slice none 0 0],35,true⟩] (by kernel_rfl) (by kernel_rfl)
 replace hG:=hF.gx
 clear hF
 have z3:=hS.fr.size
 refine wp_cond_false (hK.ev 8 (by kernel_rfl) _ (by kernel_rfl)) ?_
 refine wp_skip ?_
 refine then_n ?_
 refine wp_symQ hS hG hK (fun p4=>[.v 11 (.pointer (some ⟨(p1 0).N,0,none⟩)),.l 12 (.bool true) 0 0,.v 13 (.bool false),.v 14 (.bool false),.k (some 15),.k (some 16),.k (some 17),.k (some 18),.v 19 (.bool false),.l 20 (.agg #[.bool true,.slice a n c,.slice b k l]) 0 0,.c (some 21) (cH W3.heap.size x y fun x9 y9=>.agg #[.bool false,x9,y9]),.p 1 0 [.bool false,.slice (p4 10).A (p4 10).N (p4 10).C,.slice (p4 10).A' (p4 10).N' (p4 10).C'],.v 3 (.int .i64 0)]) (fun p4=>[(2,.pointer (some ⟨(p1 1).N,0,none⟩)),(3,.int .i64 0),(4,.int .i64 0),(8,.bool false)]) (by kernel_rfl) (fun _ _=>by kernel_rfl) (fun _=>by kernel_rfl) (fun _=>by kernel_rfl) (fun p4=>?_) (fun p4 W4 T hF hK=>?_)
 ·refine ok_v (by kernel_rfl) ?_
  refine ok_L (by kernel_rfl) (by kernel_rfl) (by kernel_rfl) ?_
  iterate 2 refine ok_v (by kernel_rfl) ?_
  iterate 4 refine ok_K (by kernel_rfl) ?_
  refine ok_v (by kernel_rfl) ?_
  refine ok_L (by kernel_rfl) (by kernel_rfl) (by kernel_rfl) ?_
  refine ok_c (fun W cx=>as_h cx.hb (scopied_is _ true a b n c k l x y (false) (cx.G.1) (cx.G.2.1))) (by kernel_rfl) ?_
  refine ok_P (by kernel_rfl) (by kernel_rfl) (by kernel_rfl) ?_
  refine ok_v (by kernel_rfl) ?_
  exact ok_nil
 replace hS:=SymF.fb hS hF [1] [⟨(p1 1).N,#[.bool false,.slice (p4 10).A (p4 10).N (p4 10).C,.slice (p4 10).A' (p4 10).N' (p4 10).C'],35,true⟩] (by kernel_rfl) (by kernel_rfl)
 replace hG:GsAt (gM W3.heap.size (p4 10).A (p4 10).N (p4 10).C x :: gM W3.heap.size (p4 10).A' (p4 10).N' (p4 10).C' y :: _) W4:=⟨And.left (hF.fx 10),And.right (hF.fx 10),hF.gx⟩
 clear hF
 have z4:=hS.fr.size
 refine wp_ret ?_
 exact sym_end hS hK (.tuple #[.agg #[.bool false,.slice (p4 10).A (p4 10).N (p4 10).C,.slice (p4 10).A' (p4 10).N' (p4 10).C'],.int .i64 0]) [(0,0,3)] [.bool false,.slice (p4 10).A (p4 10).N (p4 10).C,.slice (p4 10).A' (p4 10).N' (p4 10).C'] (by kernel_rfl) (by kernel_rfl) ⟨⟨_,_,_,_,_,_,rfl,Mine.mono hG.1 z3,Mine.mono hG.2.1 z3⟩,hS.fr⟩
theorem sneg_f (w:World) (a b:Option Addr) (n c k l x y:Nat) (hx:x≠0) (h1:Num w a n x) (h2:Num w b k y) (HC:Hid (∀ W:World,Num W a n x→Num W b k y→Calls Tryz.prog 24 #[.agg #[.bool false,.slice a n c,.slice b k l]] W fun e W'=>e = .returned (.int .i64 0)∧Below W.heap.size W W')) :
  Calls Tryz.prog 13 #[.agg #[.bool false,.slice a n c,.slice b k l]] w fun en w'=>(∃ A N C A' N' C',en = .returned (.tuple #[.agg #[.bool true,.slice A N C,.slice A' N' C'],.int .i64 0])∧Mine w' w.heap.size A N C x∧Mine w' w.heap.size A' N' C' y)∧Below w.heap.size w w':=by
 refine calls_sym Tryz.func13 rfl (by kernel_rfl) fun T hK=>?_
 replace hK:Kn T _ [(0,.agg #[.bool false,.slice a n c,.slice b k l])]:=hK
 have hS:=Fb.begin w
 have hG:GsAt [gN a n x,gN b k y] w:=⟨h1,h2,trivial⟩
 refine wp_symQ hS hG hK (fun p1=>[.n 1 #[.bool false,.slice a n c,.slice b k l] 35,.n 2 #[.bool false,.slice none 0 0,.slice none 0 0] 35,.v 3 (.int .i64 0)]) (fun p1=>[(1,.pointer (some ⟨(p1 0).N,0,none⟩)),(2,.pointer (some ⟨(p1 1).N,0,none⟩)),(3,.int .i64 0)]) (by kernel_rfl) (fun _ _=>by kernel_rfl) (fun _=>by kernel_rfl) (fun _=>by kernel_rfl) (fun p1=>?_) (fun p1 W1 T hF hK=>?_)
 ·iterate 2 refine ok_n (fun _=>by kernel_rfl) ?_
  refine ok_v (by kernel_rfl) ?_
  exact ok_nil
 replace hS:=SymF.fb hS hF [1000,1001] [⟨(p1 0).N,#[.bool false,.slice a n c,.slice b k l],35,true⟩,⟨(p1 1).N,#[.bool false,.slice none 0 0,.slice none 0 0],35,true⟩] (by kernel_rfl) (by kernel_rfl)
 replace hG:=hF.gx
 clear hF
 have z1:=hS.fr.size
 refine wp_seq ?_
 refine wp_symQ hS hG hK (fun p2=>[.l 5 (.agg #[.bool false,.slice a n c,.slice b k l]) 0 0,.c (some 6) (cV (.int .i64 0)),.v 4 (.int .i64 0)]) (fun p2=>[(1,.pointer (some ⟨(p1 0).N,0,none⟩)),(2,.pointer (some ⟨(p1 1).N,0,none⟩)),(3,.int .i64 0),(4,.int .i64 0)]) (by kernel_rfl) (fun _ _=>by kernel_rfl) (fun _=>by kernel_rfl) (fun _=>by kernel_rfl) (fun p2=>?_) (fun p2 W2 T hF hK=>?_)
 ·refine ok_L (by kernel_rfl) (by kernel_rfl) (by kernel_rfl) ?_
  refine ok_c (fun W cx=>as_v (unhide HC _ (cx.G.1) (cx.G.2.1))) (by kernel_rfl) ?_
  refine ok_v (by kernel_rfl) ?_
  exact ok_nil
 replace hS:=SymF.fb hS hF [0,1] [⟨(p1 0).N,#[.bool false,.slice a n c,.slice b k l],35,true⟩,⟨(p1 1).N,#[.bool false,.slice none 0 0,.slice none 0 0],35,true⟩] (by kernel_rfl) (by kernel_rfl)
 replace hG:=hF.gx
 clear hF
 have z2:=hS.fr.size
 refine wp_symQ hS hG hK (fun p3=>[.v 7 (.int .i64 0),.v 8 (.bool false)]) (fun p3=>[(1,.pointer (some ⟨(p1 0).N,0,none⟩)),(2,.pointer (some ⟨(p1 1).N,0,none⟩)),(3,.int .i64 0),(4,.int .i64 0),(8,.bool false)]) (by kernel_rfl) (fun _ _=>by kernel_rfl) (fun _=>by kernel_rfl) (fun _=>by kernel_rfl) (fun p3=>?_) (fun p3 W3 T hF hK=>?_)
 ·iterate 2 refine ok_v (by kernel_rfl) ?_
  exact ok_nil
 replace hS:=SymF.fb hS hF [0,1] [⟨(p1 0).N,#[.bool false,.slice a n c,.slice b k l],35,true⟩,⟨(p1 1).N,#[.bool false,.slice none 0 0,.slice none 0 0],35,true⟩] (by kernel_rfl) (by kernel_rfl)
 replace hG:=hF.gx
 clear hF
 have z3:=hS.fr.size
 refine wp_cond_false (hK.ev 8 (by kernel_rfl) _ (by kernel_rfl)) ?_
 refine wp_skip ?_
 refine then_n ?_
 refine wp_symQ hS hG hK (fun p4=>[.v 11 (.pointer (some ⟨(p1 0).N,0,none⟩)),.l 12 (.bool false) 0 0,.v 13 (.bool true),.v 14 (.bool true),.v 15 (.pointer (some ⟨(p1 0).N,1,none⟩)),.l 16 (.agg #[.slice a n c]) 0 1,.c (some 17) (cV (.bool false)),.v 18 (.bool true),.v 19 (.bool true),.l 20 (.agg #[.bool false,.slice a n c,.slice b k l]) 0 0,.c (some 21) (cH W3.heap.size x y fun x9 y9=>.agg #[.bool true,x9,y9]),.p 1 0 [.bool true,.slice (p4 10).A (p4 10).N (p4 10).C,.slice (p4 10).A' (p4 10).N' (p4 10).C'],.v 3 (.int .i64 0)]) (fun p4=>[(2,.pointer (some ⟨(p1 1).N,0,none⟩)),(3,.int .i64 0),(4,.int .i64 0),(8,.bool false)]) (by kernel_rfl) (fun _ _=>by kernel_rfl) (fun _=>by kernel_rfl) (fun _=>by kernel_rfl) (fun p4=>?_) (fun p4 W4 T hF hK=>?_)
 ·refine ok_v (by kernel_rfl) ?_
  refine ok_L (by kernel_rfl) (by kernel_rfl) (by kernel_rfl) ?_
  iterate 3 refine ok_v (by kernel_rfl) ?_
  refine ok_L (by kernel_rfl) (by kernel_rfl) (by kernel_rfl) ?_
  refine ok_c (fun W cx=>as_v (rnought_c a _ c _ _ (Num.noz (cx.G.1) hx))) (by kernel_rfl) ?_
  iterate 2 refine ok_v (by kernel_rfl) ?_
  refine ok_L (by kernel_rfl) (by kernel_rfl) (by kernel_rfl) ?_
  refine ok_c (fun W cx=>as_h cx.hb (scopied_is _ false a b n c k l x y (true) (cx.G.1) (cx.G.2.1))) (by kernel_rfl) ?_
  refine ok_P (by kernel_rfl) (by kernel_rfl) (by kernel_rfl) ?_
  refine ok_v (by kernel_rfl) ?_
  exact ok_nil
 replace hS:=SymF.fb hS hF [1] [⟨(p1 1).N,#[.bool true,.slice (p4 10).A (p4 10).N (p4 10).C,.slice (p4 10).A' (p4 10).N' (p4 10).C'],35,true⟩] (by kernel_rfl) (by kernel_rfl)
 replace hG:GsAt (gM W3.heap.size (p4 10).A (p4 10).N (p4 10).C x :: gM W3.heap.size (p4 10).A' (p4 10).N' (p4 10).C' y :: _) W4:=⟨And.left (hF.fx 10),And.right (hF.fx 10),hF.gx⟩
 clear hF
 have z4:=hS.fr.size
 refine wp_ret ?_
 exact sym_end hS hK (.tuple #[.agg #[.bool true,.slice (p4 10).A (p4 10).N (p4 10).C,.slice (p4 10).A' (p4 10).N' (p4 10).C'],.int .i64 0]) [(0,0,3)] [.bool true,.slice (p4 10).A (p4 10).N (p4 10).C,.slice (p4 10).A' (p4 10).N' (p4 10).C'] (by kernel_rfl) (by kernel_rfl) ⟨⟨_,_,_,_,_,_,rfl,Mine.mono hG.1 z3,Mine.mono hG.2.1 z3⟩,hS.fr⟩
theorem sneg_z (w:World) (a b:Option Addr) (n c k l x y:Nat) (hx:x = 0) (h1:Num w a n x) (h2:Num w b k y) (HC:Hid (∀ W:World,Num W a n x→Num W b k y→Calls Tryz.prog 24 #[.agg #[.bool false,.slice a n c,.slice b k l]] W fun e W'=>e = .returned (.int .i64 0)∧Below W.heap.size W W')) :
  Calls Tryz.prog 13 #[.agg #[.bool false,.slice a n c,.slice b k l]] w fun en w'=>(∃ A N C A' N' C',en = .returned (.tuple #[.agg #[.bool false,.slice A N C,.slice A' N' C'],.int .i64 0])∧Mine w' w.heap.size A N C x∧Mine w' w.heap.size A' N' C' y)∧Below w.heap.size w w':=by
 refine calls_sym Tryz.func13 rfl (by kernel_rfl) fun T hK=>?_
 replace hK:Kn T _ [(0,.agg #[.bool false,.slice a n c,.slice b k l])]:=hK
 have hS:=Fb.begin w
 have hG:GsAt [gN a n x,gN b k y] w:=⟨h1,h2,trivial⟩
 refine wp_symQ hS hG hK (fun p1=>[.n 1 #[.bool false,.slice a n c,.slice b k l] 35,.n 2 #[.bool false,.slice none 0 0,.slice none 0 0] 35,.v 3 (.int .i64 0)]) (fun p1=>[(1,.pointer (some ⟨(p1 0).N,0,none⟩)),(2,.pointer (some ⟨(p1 1).N,0,none⟩)),(3,.int .i64 0)]) (by kernel_rfl) (fun _ _=>by kernel_rfl) (fun _=>by kernel_rfl) (fun _=>by kernel_rfl) (fun p1=>?_) (fun p1 W1 T hF hK=>?_)
 ·iterate 2 refine ok_n (fun _=>by kernel_rfl) ?_
  refine ok_v (by kernel_rfl) ?_
  exact ok_nil
 replace hS:=SymF.fb hS hF [1000,1001] [⟨(p1 0).N,#[.bool false,.slice a n c,.slice b k l],35,true⟩,⟨(p1 1).N,#[.bool false,.slice none 0 0,.slice none 0 0],35,true⟩] (by kernel_rfl) (by kernel_rfl)
 replace hG:=hF.gx
 clear hF
 have z1:=hS.fr.size
 refine wp_seq ?_
 refine wp_symQ hS hG hK (fun p2=>[.l 5 (.agg #[.bool false,.slice a n c,.slice b k l]) 0 0,.c (some 6) (cV (.int .i64 0)),.v 4 (.int .i64 0)]) (fun p2=>[(1,.pointer (some ⟨(p1 0).N,0,none⟩)),(2,.pointer (some ⟨(p1 1).N,0,none⟩)),(3,.int .i64 0),(4,.int .i64 0)]) (by kernel_rfl) (fun _ _=>by kernel_rfl) (fun _=>by kernel_rfl) (fun _=>by kernel_rfl) (fun p2=>?_) (fun p2 W2 T hF hK=>?_)
 ·refine ok_L (by kernel_rfl) (by kernel_rfl) (by kernel_rfl) ?_
  refine ok_c (fun W cx=>as_v (unhide HC _ (cx.G.1) (cx.G.2.1))) (by kernel_rfl) ?_
  refine ok_v (by kernel_rfl) ?_
  exact ok_nil
 replace hS:=SymF.fb hS hF [0,1] [⟨(p1 0).N,#[.bool false,.slice a n c,.slice b k l],35,true⟩,⟨(p1 1).N,#[.bool false,.slice none 0 0,.slice none 0 0],35,true⟩] (by kernel_rfl) (by kernel_rfl)
 replace hG:=hF.gx
 clear hF
 have z2:=hS.fr.size
 refine wp_symQ hS hG hK (fun p3=>[.v 7 (.int .i64 0),.v 8 (.bool false)]) (fun p3=>[(1,.pointer (some ⟨(p1 0).N,0,none⟩)),(2,.pointer (some ⟨(p1 1).N,0,none⟩)),(3,.int .i64 0),(4,.int .i64 0),(8,.bool false)]) (by kernel_rfl) (fun _ _=>by kernel_rfl) (fun _=>by kernel_rfl) (fun _=>by kernel_rfl) (fun p3=>?_) (fun p3 W3 T hF hK=>?_)
 ·iterate 2 refine ok_v (by kernel_rfl) ?_
  exact ok_nil
 replace hS:=SymF.fb hS hF [0,1] [⟨(p1 0).N,#[.bool false,.slice a n c,.slice b k l],35,true⟩,⟨(p1 1).N,#[.bool false,.slice none 0 0,.slice none 0 0],35,true⟩] (by kernel_rfl) (by kernel_rfl)
 replace hG:=hF.gx
 clear hF
 have z3:=hS.fr.size
 refine wp_cond_false (hK.ev 8 (by kernel_rfl) _ (by kernel_rfl)) ?_
 refine wp_skip ?_
 refine then_n ?_
 refine wp_symQ hS hG hK (fun p4=>[.v 11 (.pointer (some ⟨(p1 0).N,0,none⟩)),.l 12 (.bool false) 0 0,.v 13 (.bool true),.v 14 (.bool true),.v 15 (.pointer (some ⟨(p1 0).N,1,none⟩)),.l 16 (.agg #[.slice a n c]) 0 1,.c (some 17) (cV (.bool true)),.v 18 (.bool false),.v 19 (.bool false),.l 20 (.agg #[.bool false,.slice a n c,.slice b k l]) 0 0,.c (some 21) (cH W3.heap.size x y fun x9 y9=>.agg #[.bool false,x9,y9]),.p 1 0 [.bool false,.slice (p4 10).A (p4 10).N (p4 10).C,.slice (p4 10).A' (p4 10).N' (p4 10).C'],.v 3 (.int .i64 0)]) (fun p4=>[(2,.pointer (some ⟨(p1 1).N,0,none⟩)),(3,.int .i64 0),(4,.int .i64 0),(8,.bool false)]) (by kernel_rfl) (fun _ _=>by kernel_rfl) (fun _=>by kernel_rfl) (fun _=>by kernel_rfl) (fun p4=>?_) (fun p4 W4 T hF hK=>?_)
 ·refine ok_v (by kernel_rfl) ?_
  refine ok_L (by kernel_rfl) (by kernel_rfl) (by kernel_rfl) ?_
  iterate 3 refine ok_v (by kernel_rfl) ?_
  refine ok_L (by kernel_rfl) (by kernel_rfl) (by kernel_rfl) ?_
  refine ok_c (fun W cx=>as_v (rnought_c a _ c _ _ (Num.isz (cx.G.1) hx))) (by kernel_rfl) ?_
  iterate 2 refine ok_v (by kernel_rfl) ?_
  refine ok_L (by kernel_rfl) (by kernel_rfl) (by kernel_rfl) ?_
  refine ok_c (fun W cx=>as_h cx.hb (scopied_is _ false a b n c k l x y (false) (cx.G.1) (cx.G.2.1))) (by kernel_rfl) ?_
  refine ok_P (by kernel_rfl) (by kernel_rfl) (by kernel_rfl) ?_
  refine ok_v (by kernel_rfl) ?_
  exact ok_nil
 replace hS:=SymF.fb hS hF [1] [⟨(p1 1).N,#[.bool false,.slice (p4 10).A (p4 10).N (p4 10).C,.slice (p4 10).A' (p4 10).N' (p4 10).C'],35,true⟩] (by kernel_rfl) (by kernel_rfl)
 replace hG:GsAt (gM W3.heap.size (p4 10).A (p4 10).N (p4 10).C x :: gM W3.heap.size (p4 10).A' (p4 10).N' (p4 10).C' y :: _) W4:=⟨And.left (hF.fx 10),And.right (hF.fx 10),hF.gx⟩
 clear hF
 have z4:=hS.fr.size
 refine wp_ret ?_
 exact sym_end hS hK (.tuple #[.agg #[.bool false,.slice (p4 10).A (p4 10).N (p4 10).C,.slice (p4 10).A' (p4 10).N' (p4 10).C'],.int .i64 0]) [(0,0,3)] [.bool false,.slice (p4 10).A (p4 10).N (p4 10).C,.slice (p4 10).A' (p4 10).N' (p4 10).C'] (by kernel_rfl) (by kernel_rfl) ⟨⟨_,_,_,_,_,_,rfl,Mine.mono hG.1 z3,Mine.mono hG.2.1 z3⟩,hS.fr⟩
theorem sscl_p (w:World) (s:Bool) (a b:Option Addr) (n c k l x y:Nat) (t:Bool) (u v:Nat) (h1:Num w a n x) (h2:Num w b k y) (HO:Hid (∀ (W:World) (A:Option Addr) (N C:Nat) (A':Option Addr) (N' C':Nat),Num W a n x→Num W b k y→Num W A N 10→Num W A' N' 1→Calls Tryz.prog 30 #[.agg #[.bool s,.slice a n c,.slice b k l,.bool false,.slice A N C,.slice A' N' C']] W fun en W'=>(∃ A N C A' N' C',en = .returned (.tuple #[.agg #[.bool t,.slice A N C,.slice A' N' C'],.int .i64 0])∧Mine W' W.heap.size A N C u∧Mine W' W.heap.size A' N' C' v)∧Below W.heap.size W W')) :
  Calls Tryz.prog 28 #[.agg #[.bool s,.slice a n c,.slice b k l],.int .u32 10,.int .u64 1,.func (.func 30) #[] #[]] w fun en w'=>(∃ A N C A' N' C',en = .returned (.tuple #[.agg #[.bool t,.slice A N C,.slice A' N' C'],.int .i64 0])∧Mine w' w.heap.size A N C u∧Mine w' w.heap.size A' N' C' v)∧Below w.heap.size w w':=by
 refine calls_sym Tryz.func28 rfl (by kernel_rfl) fun T hK=>?_
 replace hK:Kn T _ [(0,.agg #[.bool s,.slice a n c,.slice b k l]),(1,.int .u32 10),(2,.int .u64 1),(3,.func (.func 30) #[] #[])]:=hK
 have hS:=Fb.begin w
 have hG:GsAt [gN a n x,gN b k y] w:=⟨h1,h2,trivial⟩
 refine wp_symQ hS hG hK (fun p1=>[.n 4 #[.bool s,.slice a n c,.slice b k l] 35,.n 8 #[.bool false,.slice none 0 0,.slice none 0 0] 35,.v 9 (.int .i64 0)]) (fun p1=>[(1,.int .u32 10),(2,.int .u64 1),(3,.func (.func 30) #[] #[]),(4,.pointer (some ⟨(p1 0).N,0,none⟩)),(8,.pointer (some ⟨(p1 1).N,0,none⟩)),(9,.int .i64 0)]) (by kernel_rfl) (fun _ _=>by kernel_rfl) (fun _=>by kernel_rfl) (fun _=>by kernel_rfl) (fun p1=>?_) (fun p1 W1 T hF hK=>?_)
 ·iterate 2 refine ok_n (fun _=>by kernel_rfl) ?_
  refine ok_v (by kernel_rfl) ?_
  exact ok_nil
 replace hS:=SymF.fb hS hF [1000,1001] [⟨(p1 0).N,#[.bool s,.slice a n c,.slice b k l],35,true⟩,⟨(p1 1).N,#[.bool false,.slice none 0 0,.slice none 0 0],35,true⟩] (by kernel_rfl) (by kernel_rfl)
 replace hG:=hF.gx
 clear hF
 have z1:=hS.fr.size
 refine wp_seq ?_
 refine wp_symQ hS hG hK (fun p2=>[.v 14 (.int .u64 1),.v 15 (.bool false)]) (fun p2=>[(1,.int .u32 10),(2,.int .u64 1),(3,.func (.func 30) #[] #[]),(4,.pointer (some ⟨(p1 0).N,0,none⟩)),(8,.pointer (some ⟨(p1 1).N,0,none⟩)),(9,.int .i64 0),(15,.bool false)]) (by kernel_rfl) (fun _ _=>by kernel_rfl) (fun _=>by kernel_rfl) (fun _=>by kernel_rfl) (fun p2=>?_) (fun p2 W2 T hF hK=>?_)
 ·iterate 2 refine ok_v (by kernel_rfl) ?_
  exact ok_nil
 replace hS:=SymF.fb hS hF [0,1] [⟨(p1 0).N,#[.bool s,.slice a n c,.slice b k l],35,true⟩,⟨(p1 1).N,#[.bool false,.slice none 0 0,.slice none 0 0],35,true⟩] (by kernel_rfl) (by kernel_rfl)
 replace hG:=hF.gx
 clear hF
 have z2:=hS.fr.size
 refine wp_cond_false (hK.ev 15 (by kernel_rfl) _ (by kernel_rfl)) ?_
 refine wp_skip ?_
 refine then_n ?_
 refine wp_symQ hS hG hK (fun p3=>[.v 17 (.int .u32 10),.c (some 18) (cV (.int .i64 4)),.v 19 (.int .i64 131072),.v 20 (.int .u64 131072),.v 10 (.int .u64 131072)]) (fun p3=>[(1,.int .u32 10),(2,.int .u64 1),(3,.func (.func 30) #[] #[]),(4,.pointer (some ⟨(p1 0).N,0,none⟩)),(8,.pointer (some ⟨(p1 1).N,0,none⟩)),(9,.int .i64 0),(10,.int .u64 131072),(15,.bool false)]) (by kernel_rfl) (fun _ _=>by kernel_rfl) (fun _=>by kernel_rfl) (fun _=>by kernel_rfl) (fun p3=>?_) (fun p3 W3 T hF hK=>?_)
 ·refine ok_v (by kernel_rfl) ?_
  refine ok_c (fun W cx=>as_v (slen10 _)) (by kernel_rfl) ?_
  iterate 3 refine ok_v (by kernel_rfl) ?_
  exact ok_nil
 replace hS:=SymF.fb hS hF [0,1] [⟨(p1 0).N,#[.bool s,.slice a n c,.slice b k l],35,true⟩,⟨(p1 1).N,#[.bool false,.slice none 0 0,.slice none 0 0],35,true⟩] (by kernel_rfl) (by kernel_rfl)
 replace hG:=hF.gx
 clear hF
 have z3:=hS.fr.size
 refine wp_seq ?_
 refine wp_block ?_
 refine wp_loop_rounds 2 ?_
 refine rounds_s ?_
 refine wp_seq ?_
 refine wp_symQ hS hG hK (fun p4=>[.v 21 (.int .u64 1),.v 22 (.bool true)]) (fun p4=>[(1,.int .u32 10),(2,.int .u64 1),(3,.func (.func 30) #[] #[]),(4,.pointer (some ⟨(p1 0).N,0,none⟩)),(8,.pointer (some ⟨(p1 1).N,0,none⟩)),(9,.int .i64 0),(10,.int .u64 131072),(15,.bool false),(21,.int .u64 1),(22,.bool true)]) (by kernel_rfl) (fun _ _=>by kernel_rfl) (fun _=>by kernel_rfl) (fun _=>by kernel_rfl) (fun p4=>?_) (fun p4 W4 T hF hK=>?_)
 ·iterate 2 refine ok_v (by kernel_rfl) ?_
  exact ok_nil
 replace hS:=SymF.fb hS hF [0,1] [⟨(p1 0).N,#[.bool s,.slice a n c,.slice b k l],35,true⟩,⟨(p1 1).N,#[.bool false,.slice none 0 0,.slice none 0 0],35,true⟩] (by kernel_rfl) (by kernel_rfl)
 replace hG:=hF.gx
 clear hF
 have z4:=hS.fr.size
 refine wp_cond_true (hK.ev 22 (by kernel_rfl) _ (by kernel_rfl)) ?_
 refine wp_skip ?_
 refine then_n ?_
 refine wp_block ?_
 refine wp_symQ hS hG hK (fun p5=>[.v 23 (.int .u64 1),.v 24 (.int .u64 131072),.v 25 (.int .u64 1),.v 11 (.int .u64 1)]) (fun p5=>[(1,.int .u32 10),(2,.int .u64 1),(3,.func (.func 30) #[] #[]),(4,.pointer (some ⟨(p1 0).N,0,none⟩)),(8,.pointer (some ⟨(p1 1).N,0,none⟩)),(9,.int .i64 0),(10,.int .u64 131072),(11,.int .u64 1),(15,.bool false),(21,.int .u64 1),(22,.bool true),(23,.int .u64 1),(24,.int .u64 131072),(25,.int .u64 1)]) (by kernel_rfl) (fun _ _=>by kernel_rfl) (fun _=>by kernel_rfl) (fun _=>by kernel_rfl) (fun p5=>?_) (fun p5 W5 T hF hK=>?_)
 ·iterate 4 refine ok_v (by kernel_rfl) ?_
  exact ok_nil
 replace hS:=SymF.fb hS hF [0,1] [⟨(p1 0).N,#[.bool s,.slice a n c,.slice b k l],35,true⟩,⟨(p1 1).N,#[.bool false,.slice none 0 0,.slice none 0 0],35,true⟩] (by kernel_rfl) (by kernel_rfl)
 replace hG:=hF.gx
 clear hF
 have z5:=hS.fr.size
 refine wp_symQ hS hG hK (fun p6=>[.v 26 (.int .u64 1),.v 27 (.int .u64 1),.v 28 (.int .u64 0),.v 2 (.int .u64 0)]) (fun p6=>[(1,.int .u32 10),(2,.int .u64 0),(3,.func (.func 30) #[] #[]),(4,.pointer (some ⟨(p1 0).N,0,none⟩)),(8,.pointer (some ⟨(p1 1).N,0,none⟩)),(9,.int .i64 0),(10,.int .u64 131072),(11,.int .u64 1),(15,.bool false),(21,.int .u64 1),(22,.bool true),(23,.int .u64 1),(24,.int .u64 131072),(25,.int .u64 1),(26,.int .u64 1),(27,.int .u64 1),(28,.int .u64 0)]) (by kernel_rfl) (fun _ _=>by kernel_rfl) (fun _=>by kernel_rfl) (fun _=>by kernel_rfl) (fun p6=>?_) (fun p6 W6 T hF hK=>?_)
 ·iterate 4 refine ok_v (by kernel_rfl) ?_
  exact ok_nil
 replace hS:=SymF.fb hS hF [0,1] [⟨(p1 0).N,#[.bool s,.slice a n c,.slice b k l],35,true⟩,⟨(p1 1).N,#[.bool false,.slice none 0 0,.slice none 0 0],35,true⟩] (by kernel_rfl) (by kernel_rfl)
 replace hG:=hF.gx
 clear hF
 have z6:=hS.fr.size
 refine wp_symQ hS hG hK (fun p7=>[.v 30 (.int .u32 10),.v 31 (.int .u64 1),.v 32 (.int .i64 1),.c (some 33) (cO W6.heap.size 10),.v 29 (.tuple #[.agg #[.slice (p7 3).A (p7 3).N (p7 3).C],.int .i64 0]),.v 34 (.agg #[.slice (p7 3).A (p7 3).N (p7 3).C]),.v 35 (.int .i64 0),.n 12 #[.slice none 0 0] 28,.p 1007 0 [.slice (p7 3).A (p7 3).N (p7 3).C],.v 13 (.int .i64 0)]) (fun p7=>[(1,.int .u32 10),(2,.int .u64 0),(3,.func (.func 30) #[] #[]),(4,.pointer (some ⟨(p1 0).N,0,none⟩)),(8,.pointer (some ⟨(p1 1).N,0,none⟩)),(9,.int .i64 0),(10,.int .u64 131072),(11,.int .u64 1),(12,.pointer (some ⟨(p7 7).N,0,none⟩)),(13,.int .i64 0),(15,.bool false),(21,.int .u64 1),(22,.bool true),(23,.int .u64 1),(24,.int .u64 131072),(25,.int .u64 1),(26,.int .u64 1),(27,.int .u64 1),(28,.int .u64 0),(29,.tuple #[.agg #[.slice (p7 3).A (p7 3).N (p7 3).C],.int .i64 0]),(30,.int .u32 10),(31,.int .u64 1),(32,.int .i64 1),(33,.tuple #[.agg #[.slice (p7 3).A (p7 3).N (p7 3).C],.int .i64 0]),(34,.agg #[.slice (p7 3).A (p7 3).N (p7 3).C]),(35,.int .i64 0)]) (by kernel_rfl) (fun _ _=>by kernel_rfl) (fun _=>by kernel_rfl) (fun _=>by kernel_rfl) (fun p7=>?_) (fun p7 W7 T hF hK=>?_)
 ·iterate 3 refine ok_v (by kernel_rfl) ?_
  refine ok_c (fun W cx=>as_o cx.hb (spow10 _)) (by kernel_rfl) ?_
  iterate 3 refine ok_v (by kernel_rfl) ?_
  refine ok_n (fun _=>by kernel_rfl) ?_
  refine ok_P (by kernel_rfl) (by kernel_rfl) (by kernel_rfl) ?_
  refine ok_v (by kernel_rfl) ?_
  exact ok_nil
 replace hS:=SymF.fb hS hF [0,1,1007] [⟨(p1 0).N,#[.bool s,.slice a n c,.slice b k l],35,true⟩,⟨(p1 1).N,#[.bool false,.slice none 0 0,.slice none 0 0],35,true⟩,⟨(p7 7).N,#[.slice (p7 3).A (p7 3).N (p7 3).C],28,true⟩] (by kernel_rfl) (by kernel_rfl)
 replace hG:GsAt (gM W6.heap.size (p7 3).A (p7 3).N (p7 3).C 10 :: _) W7:=⟨hF.fx 3,hF.gx⟩
 clear hF
 have z7:=hS.fr.size
 refine wp_seq ?_
 refine wp_symQ hS hG hK (fun p8=>[.v 36 (.int .i64 0),.v 37 (.bool false)]) (fun p8=>[(1,.int .u32 10),(2,.int .u64 0),(3,.func (.func 30) #[] #[]),(4,.pointer (some ⟨(p1 0).N,0,none⟩)),(8,.pointer (some ⟨(p1 1).N,0,none⟩)),(9,.int .i64 0),(10,.int .u64 131072),(11,.int .u64 1),(12,.pointer (some ⟨(p7 7).N,0,none⟩)),(13,.int .i64 0),(15,.bool false),(21,.int .u64 1),(22,.bool true),(23,.int .u64 1),(24,.int .u64 131072),(25,.int .u64 1),(26,.int .u64 1),(27,.int .u64 1),(28,.int .u64 0),(29,.tuple #[.agg #[.slice (p7 3).A (p7 3).N (p7 3).C],.int .i64 0]),(30,.int .u32 10),(31,.int .u64 1),(32,.int .i64 1),(33,.tuple #[.agg #[.slice (p7 3).A (p7 3).N (p7 3).C],.int .i64 0]),(34,.agg #[.slice (p7 3).A (p7 3).N (p7 3).C]),(35,.int .i64 0),(36,.int .i64 0),(37,.bool false)]) (by kernel_rfl) (fun _ _=>by kernel_rfl) (fun _=>by kernel_rfl) (fun _=>by kernel_rfl) (fun p8=>?_) (fun p8 W8 T hF hK=>?_)
 ·iterate 2 refine ok_v (by kernel_rfl) ?_
  exact ok_nil
 replace hS:=SymF.fb hS hF [0,1,2] [⟨(p1 0).N,#[.bool s,.slice a n c,.slice b k l],35,true⟩,⟨(p1 1).N,#[.bool false,.slice none 0 0,.slice none 0 0],35,true⟩,⟨(p7 7).N,#[.slice (p7 3).A (p7 3).N (p7 3).C],28,true⟩] (by kernel_rfl) (by kernel_rfl)
 replace hG:=hF.gx
 clear hF
 have z8:=hS.fr.size
 refine wp_cond_false (hK.ev 37 (by kernel_rfl) _ (by kernel_rfl)) ?_
 refine wp_skip ?_
 refine then_n ?_
 refine wp_symQ hS hG hK (fun p9=>[.v 41 (.func (.func 30) #[] #[]),.l 42 (.agg #[.bool s,.slice a n c,.slice b k l]) 0 0,.l 43 (.agg #[.slice (p7 3).A (p7 3).N (p7 3).C]) 2 0,.c (some 44) (cN W8.heap.size 1),.v 45 (.agg #[.bool false,.slice (p7 3).A (p7 3).N (p7 3).C,.slice (p9 3).A (p9 3).N (p9 3).C]),.v 46 (.agg #[.bool s,.slice a n c,.slice b k l,.bool false,.slice (p7 3).A (p7 3).N (p7 3).C,.slice (p9 3).A (p9 3).N (p9 3).C]),.c (some 47) (cH W8.heap.size u v fun x9 y9=>.tuple #[.agg #[.bool t,x9,y9],.int .i64 0]),.v 40 (.tuple #[.agg #[.bool t,.slice (p9 6).A (p9 6).N (p9 6).C,.slice (p9 6).A' (p9 6).N' (p9 6).C'],.int .i64 0]),.v 48 (.agg #[.bool t,.slice (p9 6).A (p9 6).N (p9 6).C,.slice (p9 6).A' (p9 6).N' (p9 6).C']),.v 49 (.int .i64 0),.p 0 0 [.bool t,.slice (p9 6).A (p9 6).N (p9 6).C,.slice (p9 6).A' (p9 6).N' (p9 6).C'],.v 13 (.int .i64 0)]) (fun p9=>[(1,.int .u32 10),(2,.int .u64 0),(3,.func (.func 30) #[] #[]),(4,.pointer (some ⟨(p1 0).N,0,none⟩)),(8,.pointer (some ⟨(p1 1).N,0,none⟩)),(9,.int .i64 0),(10,.int .u64 131072),(11,.int .u64 1),(12,.pointer (some ⟨(p7 7).N,0,none⟩)),(13,.int .i64 0),(15,.bool false),(21,.int .u64 1),(22,.bool true),(23,.int .u64 1),(24,.int .u64 131072),(25,.int .u64 1),(26,.int .u64 1),(27,.int .u64 1),(28,.int .u64 0),(29,.tuple #[.agg #[.slice (p7 3).A (p7 3).N (p7 3).C],.int .i64 0]),(30,.int .u32 10),(31,.int .u64 1),(32,.int .i64 1),(33,.tuple #[.agg #[.slice (p7 3).A (p7 3).N (p7 3).C],.int .i64 0]),(34,.agg #[.slice (p7 3).A (p7 3).N (p7 3).C]),(35,.int .i64 0),(36,.int .i64 0),(37,.bool false),(40,.tuple #[.agg #[.bool t,.slice (p9 6).A (p9 6).N (p9 6).C,.slice (p9 6).A' (p9 6).N' (p9 6).C'],.int .i64 0]),(41,.func (.func 30) #[] #[]),(42,.agg #[.bool s,.slice a n c,.slice b k l]),(43,.agg #[.slice (p7 3).A (p7 3).N (p7 3).C]),(44,.agg #[.slice (p9 3).A (p9 3).N (p9 3).C]),(45,.agg #[.bool false,.slice (p7 3).A (p7 3).N (p7 3).C,.slice (p9 3).A (p9 3).N (p9 3).C]),(46,.agg #[.bool s,.slice a n c,.slice b k l,.bool false,.slice (p7 3).A (p7 3).N (p7 3).C,.slice (p9 3).A (p9 3).N (p9 3).C]),(47,.tuple #[.agg #[.bool t,.slice (p9 6).A (p9 6).N (p9 6).C,.slice (p9 6).A' (p9 6).N' (p9 6).C'],.int .i64 0]),(48,.agg #[.bool t,.slice (p9 6).A (p9 6).N (p9 6).C,.slice (p9 6).A' (p9 6).N' (p9 6).C']),(49,.int .i64 0)]) (by kernel_rfl) (fun _ _=>by kernel_rfl) (fun _=>by kernel_rfl) (fun _=>by kernel_rfl) (fun p9=>?_) (fun p9 W9 T hF hK=>?_)
 ·refine ok_v (by kernel_rfl) ?_
  iterate 2 refine ok_L (by kernel_rfl) (by kernel_rfl) (by kernel_rfl) ?_
  refine ok_c (fun W cx=>as_n cx.hb (of_any 1 _ (by decide))) (by kernel_rfl) ?_
  iterate 2 refine ok_v (by kernel_rfl) ?_
  refine ok_c (fun W cx=>as_h cx.hb (unhide HO _ _ _ (p7 3).C _ _ (p9 3).C (cx.G.2.1) (cx.G.2.2.1) (Mine.num cx.G.1) (Mine.num (cx.F 3 (by kernel_rfl))))) (by kernel_rfl) ?_
  iterate 3 refine ok_v (by kernel_rfl) ?_
  refine ok_P (by kernel_rfl) (by kernel_rfl) (by kernel_rfl) ?_
  refine ok_v (by kernel_rfl) ?_
  exact ok_nil
 replace hS:=SymF.fb hS hF [0,1,2] [⟨(p1 0).N,#[.bool t,.slice (p9 6).A (p9 6).N (p9 6).C,.slice (p9 6).A' (p9 6).N' (p9 6).C'],35,true⟩,⟨(p1 1).N,#[.bool false,.slice none 0 0,.slice none 0 0],35,true⟩,⟨(p7 7).N,#[.slice (p7 3).A (p7 3).N (p7 3).C],28,true⟩] (by kernel_rfl) (by kernel_rfl)
 replace hG:GsAt (gM W8.heap.size (p9 3).A (p9 3).N (p9 3).C 1 :: gM W8.heap.size (p9 6).A (p9 6).N (p9 6).C u :: gM W8.heap.size (p9 6).A' (p9 6).N' (p9 6).C' v :: _) W9:=⟨hF.fx 3,And.left (hF.fx 6),And.right (hF.fx 6),hF.gx⟩
 clear hF
 have z9:=hS.fr.size
 refine wp_symQ hS hG hK (fun p10=>[.v 50 (.int .i64 0),.v 51 (.bool false)]) (fun p10=>[(1,.int .u32 10),(2,.int .u64 0),(3,.func (.func 30) #[] #[]),(4,.pointer (some ⟨(p1 0).N,0,none⟩)),(8,.pointer (some ⟨(p1 1).N,0,none⟩)),(9,.int .i64 0),(10,.int .u64 131072),(11,.int .u64 1),(12,.pointer (some ⟨(p7 7).N,0,none⟩)),(13,.int .i64 0),(15,.bool false),(21,.int .u64 1),(22,.bool true),(23,.int .u64 1),(24,.int .u64 131072),(25,.int .u64 1),(26,.int .u64 1),(27,.int .u64 1),(28,.int .u64 0),(29,.tuple #[.agg #[.slice (p7 3).A (p7 3).N (p7 3).C],.int .i64 0]),(30,.int .u32 10),(31,.int .u64 1),(32,.int .i64 1),(33,.tuple #[.agg #[.slice (p7 3).A (p7 3).N (p7 3).C],.int .i64 0]),(34,.agg #[.slice (p7 3).A (p7 3).N (p7 3).C]),(35,.int .i64 0),(36,.int .i64 0),(37,.bool false),(40,.tuple #[.agg #[.bool t,.slice (p9 6).A (p9 6).N (p9 6).C,.slice (p9 6).A' (p9 6).N' (p9 6).C'],.int .i64 0]),(41,.func (.func 30) #[] #[]),(42,.agg #[.bool s,.slice a n c,.slice b k l]),(43,.agg #[.slice (p7 3).A (p7 3).N (p7 3).C]),(44,.agg #[.slice (p9 3).A (p9 3).N (p9 3).C]),(45,.agg #[.bool false,.slice (p7 3).A (p7 3).N (p7 3).C,.slice (p9 3).A (p9 3).N (p9 3).C]),(46,.agg #[.bool s,.slice a n c,.slice b k l,.bool false,.slice (p7 3).A (p7 3).N (p7 3).C,.slice (p9 3).A (p9 3).N (p9 3).C]),(47,.tuple #[.agg #[.bool t,.slice (p9 6).A (p9 6).N (p9 6).C,.slice (p9 6).A' (p9 6).N' (p9 6).C'],.int .i64 0]),(48,.agg #[.bool t,.slice (p9 6).A (p9 6).N (p9 6).C,.slice (p9 6).A' (p9 6).N' (p9 6).C']),(49,.int .i64 0),(50,.int .i64 0),(51,.bool false)]) (by kernel_rfl) (fun _ _=>by kernel_rfl) (fun _=>by kernel_rfl) (fun _=>by kernel_rfl) (fun p10=>?_) (fun p10 W10 T hF hK=>?_)
 ·iterate 2 refine ok_v (by kernel_rfl) ?_
  exact ok_nil
 replace hS:=SymF.fb hS hF [0,1,2] [⟨(p1 0).N,#[.bool t,.slice (p9 6).A (p9 6).N (p9 6).C,.slice (p9 6).A' (p9 6).N' (p9 6).C'],35,true⟩,⟨(p1 1).N,#[.bool false,.slice none 0 0,.slice none 0 0],35,true⟩,⟨(p7 7).N,#[.slice (p7 3).A (p7 3).N (p7 3).C],28,true⟩] (by kernel_rfl) (by kernel_rfl)
 replace hG:=hF.gx
 clear hF
 have z10:=hS.fr.size
 refine wp_cond_false (hK.ev 51 (by kernel_rfl) _ (by kernel_rfl)) ?_
 refine wp_skip ?_
 refine inb_n ?_
 refine then_n ?_
 refine rounds_s ?_
 refine wp_seq ?_
 refine wp_symQ hS hG hK (fun p11=>[.v 21 (.int .u64 0),.v 22 (.bool false)]) (fun p11=>[(1,.int .u32 10),(2,.int .u64 0),(3,.func (.func 30) #[] #[]),(4,.pointer (some ⟨(p1 0).N,0,none⟩)),(8,.pointer (some ⟨(p1 1).N,0,none⟩)),(9,.int .i64 0),(10,.int .u64 131072),(11,.int .u64 1),(12,.pointer (some ⟨(p7 7).N,0,none⟩)),(13,.int .i64 0),(15,.bool false),(21,.int .u64 0),(22,.bool false),(23,.int .u64 1),(24,.int .u64 131072),(25,.int .u64 1),(26,.int .u64 1),(27,.int .u64 1),(28,.int .u64 0),(29,.tuple #[.agg #[.slice (p7 3).A (p7 3).N (p7 3).C],.int .i64 0]),(30,.int .u32 10),(31,.int .u64 1),(32,.int .i64 1),(33,.tuple #[.agg #[.slice (p7 3).A (p7 3).N (p7 3).C],.int .i64 0]),(34,.agg #[.slice (p7 3).A (p7 3).N (p7 3).C]),(35,.int .i64 0),(36,.int .i64 0),(37,.bool false),(40,.tuple #[.agg #[.bool t,.slice (p9 6).A (p9 6).N (p9 6).C,.slice (p9 6).A' (p9 6).N' (p9 6).C'],.int .i64 0]),(41,.func (.func 30) #[] #[]),(42,.agg #[.bool s,.slice a n c,.slice b k l]),(43,.agg #[.slice (p7 3).A (p7 3).N (p7 3).C]),(44,.agg #[.slice (p9 3).A (p9 3).N (p9 3).C]),(45,.agg #[.bool false,.slice (p7 3).A (p7 3).N (p7 3).C,.slice (p9 3).A (p9 3).N (p9 3).C]),(46,.agg #[.bool s,.slice a n c,.slice b k l,.bool false,.slice (p7 3).A (p7 3).N (p7 3).C,.slice (p9 3).A (p9 3).N (p9 3).C]),(47,.tuple #[.agg #[.bool t,.slice (p9 6).A (p9 6).N (p9 6).C,.slice (p9 6).A' (p9 6).N' (p9 6).C'],.int .i64 0]),(48,.agg #[.bool t,.slice (p9 6).A (p9 6).N (p9 6).C,.slice (p9 6).A' (p9 6).N' (p9 6).C']),(49,.int .i64 0),(50,.int .i64 0),(51,.bool false)]) (by kernel_rfl) (fun _ _=>by kernel_rfl) (fun _=>by kernel_rfl) (fun _=>by kernel_rfl) (fun p11=>?_) (fun p11 W11 T hF hK=>?_)
 ·iterate 2 refine ok_v (by kernel_rfl) ?_
  exact ok_nil
 replace hS:=SymF.fb hS hF [0,1,2] [⟨(p1 0).N,#[.bool t,.slice (p9 6).A (p9 6).N (p9 6).C,.slice (p9 6).A' (p9 6).N' (p9 6).C'],35,true⟩,⟨(p1 1).N,#[.bool false,.slice none 0 0,.slice none 0 0],35,true⟩,⟨(p7 7).N,#[.slice (p7 3).A (p7 3).N (p7 3).C],28,true⟩] (by kernel_rfl) (by kernel_rfl)
 replace hG:=hF.gx
 clear hF
 have z11:=hS.fr.size
 refine wp_cond_false (hK.ev 22 (by kernel_rfl) _ (by kernel_rfl)) ?_
 refine wp_exit ?_
 refine then_x ?_
 refine then_x ?_
 refine inb_x ?_
 refine then_n ?_
 refine wp_symQ hS hG hK (fun p12=>[.l 54 (.agg #[.bool t,.slice (p9 6).A (p9 6).N (p9 6).C,.slice (p9 6).A' (p9 6).N' (p9 6).C']) 0 0,.p 1 0 [.bool t,.slice (p9 6).A (p9 6).N (p9 6).C,.slice (p9 6).A' (p9 6).N' (p9 6).C'],.v 9 (.int .i64 0)]) (fun p12=>[(8,.pointer (some ⟨(p1 1).N,0,none⟩)),(9,.int .i64 0),(13,.int .i64 0),(15,.bool false),(22,.bool false),(37,.bool false),(51,.bool false)]) (by kernel_rfl) (fun _ _=>by kernel_rfl) (fun _=>by kernel_rfl) (fun _=>by kernel_rfl) (fun p12=>?_) (fun p12 W12 T hF hK=>?_)
 ·refine ok_L (by kernel_rfl) (by kernel_rfl) (by kernel_rfl) ?_
  refine ok_P (by kernel_rfl) (by kernel_rfl) (by kernel_rfl) ?_
  refine ok_v (by kernel_rfl) ?_
  exact ok_nil
 replace hS:=SymF.fb hS hF [1] [⟨(p1 1).N,#[.bool t,.slice (p9 6).A (p9 6).N (p9 6).C,.slice (p9 6).A' (p9 6).N' (p9 6).C'],35,true⟩] (by kernel_rfl) (by kernel_rfl)
 replace hG:=hF.gx
 clear hF
 have z12:=hS.fr.size
 refine wp_ret ?_
 exact sym_end hS hK (.tuple #[.agg #[.bool t,.slice (p9 6).A (p9 6).N (p9 6).C,.slice (p9 6).A' (p9 6).N' (p9 6).C'],.int .i64 0]) [(0,0,3)] [.bool t,.slice (p9 6).A (p9 6).N (p9 6).C,.slice (p9 6).A' (p9 6).N' (p9 6).C'] (by kernel_rfl) (by kernel_rfl) ⟨⟨_,_,_,_,_,_,rfl,Mine.mono hG.2.1 z8,Mine.mono hG.2.2.1 z8⟩,hS.fr⟩
theorem sscale_p (w:World) (s:Bool) (a b:Option Addr) (n c k l x y:Nat) (t:Bool) (u v:Nat) (hx:x≠0) (h1:Num w a n x) (h2:Num w b k y) (HC:Hid (∀ W:World,Num W a n x→Num W b k y→Calls Tryz.prog 24 #[.agg #[.bool s,.slice a n c,.slice b k l]] W fun e W'=>e = .returned (.int .i64 0)∧Below W.heap.size W W')) (HO:Hid (∀ (W:World) (A:Option Addr) (N C:Nat) (A':Option Addr) (N' C':Nat),Num W a n x→Num W b k y→Num W A N 10→Num W A' N' 1→Calls Tryz.prog 30 #[.agg #[.bool s,.slice a n c,.slice b k l,.bool false,.slice A N C,.slice A' N' C']] W fun en W'=>(∃ A N C A' N' C',en = .returned (.tuple #[.agg #[.bool t,.slice A N C,.slice A' N' C'],.int .i64 0])∧Mine W' W.heap.size A N C u∧Mine W' W.heap.size A' N' C' v)∧Below W.heap.size W W')) :
  Calls Tryz.prog 8 #[.agg #[.bool s,.slice a n c,.slice b k l],.int .u32 10,.int .i64 1] w fun en w'=>(∃ A N C A' N' C',en = .returned (.tuple #[.agg #[.bool t,.slice A N C,.slice A' N' C'],.int .i64 0])∧Mine w' w.heap.size A N C u∧Mine w' w.heap.size A' N' C' v)∧Below w.heap.size w w':=by
 refine calls_sym Tryz.func8 rfl (by kernel_rfl) fun T hK=>?_
 replace hK:Kn T _ [(0,.agg #[.bool s,.slice a n c,.slice b k l]),(1,.int .u32 10),(2,.int .i64 1)]:=hK
 have hS:=Fb.begin w
 have hG:GsAt [gN a n x,gN b k y] w:=⟨h1,h2,trivial⟩
 refine wp_symQ hS hG hK (fun p1=>[.n 3 #[.bool s,.slice a n c,.slice b k l] 35,.n 6 #[.bool false,.slice none 0 0,.slice none 0 0] 35,.v 7 (.int .i64 0)]) (fun p1=>[(1,.int .u32 10),(2,.int .i64 1),(3,.pointer (some ⟨(p1 0).N,0,none⟩)),(6,.pointer (some ⟨(p1 1).N,0,none⟩)),(7,.int .i64 0)]) (by kernel_rfl) (fun _ _=>by kernel_rfl) (fun _=>by kernel_rfl) (fun _=>by kernel_rfl) (fun p1=>?_) (fun p1 W1 T hF hK=>?_)
 ·iterate 2 refine ok_n (fun _=>by kernel_rfl) ?_
  refine ok_v (by kernel_rfl) ?_
  exact ok_nil
 replace hS:=SymF.fb hS hF [1000,1001] [⟨(p1 0).N,#[.bool s,.slice a n c,.slice b k l],35,true⟩,⟨(p1 1).N,#[.bool false,.slice none 0 0,.slice none 0 0],35,true⟩] (by kernel_rfl) (by kernel_rfl)
 replace hG:=hF.gx
 clear hF
 have z1:=hS.fr.size
 refine wp_seq ?_
 refine wp_symQ hS hG hK (fun p2=>[.l 9 (.agg #[.bool s,.slice a n c,.slice b k l]) 0 0,.c (some 10) (cV (.int .i64 0)),.v 8 (.int .i64 0)]) (fun p2=>[(1,.int .u32 10),(2,.int .i64 1),(3,.pointer (some ⟨(p1 0).N,0,none⟩)),(6,.pointer (some ⟨(p1 1).N,0,none⟩)),(7,.int .i64 0),(8,.int .i64 0)]) (by kernel_rfl) (fun _ _=>by kernel_rfl) (fun _=>by kernel_rfl) (fun _=>by kernel_rfl) (fun p2=>?_) (fun p2 W2 T hF hK=>?_)
 ·refine ok_L (by kernel_rfl) (by kernel_rfl) (by kernel_rfl) ?_
  refine ok_c (fun W cx=>as_v (unhide HC _ (cx.G.1) (cx.G.2.1))) (by kernel_rfl) ?_
  refine ok_v (by kernel_rfl) ?_
  exact ok_nil
 replace hS:=SymF.fb hS hF [0,1] [⟨(p1 0).N,#[.bool s,.slice a n c,.slice b k l],35,true⟩,⟨(p1 1).N,#[.bool false,.slice none 0 0,.slice none 0 0],35,true⟩] (by kernel_rfl) (by kernel_rfl)
 replace hG:=hF.gx
 clear hF
 have z2:=hS.fr.size
 refine wp_symQ hS hG hK (fun p3=>[.v 11 (.int .i64 0),.v 12 (.bool false)]) (fun p3=>[(1,.int .u32 10),(2,.int .i64 1),(3,.pointer (some ⟨(p1 0).N,0,none⟩)),(6,.pointer (some ⟨(p1 1).N,0,none⟩)),(7,.int .i64 0),(8,.int .i64 0),(12,.bool false)]) (by kernel_rfl) (fun _ _=>by kernel_rfl) (fun _=>by kernel_rfl) (fun _=>by kernel_rfl) (fun p3=>?_) (fun p3 W3 T hF hK=>?_)
 ·iterate 2 refine ok_v (by kernel_rfl) ?_
  exact ok_nil
 replace hS:=SymF.fb hS hF [0,1] [⟨(p1 0).N,#[.bool s,.slice a n c,.slice b k l],35,true⟩,⟨(p1 1).N,#[.bool false,.slice none 0 0,.slice none 0 0],35,true⟩] (by kernel_rfl) (by kernel_rfl)
 replace hG:=hF.gx
 clear hF
 have z3:=hS.fr.size
 refine wp_cond_false (hK.ev 12 (by kernel_rfl) _ (by kernel_rfl)) ?_
 refine wp_skip ?_
 refine then_n ?_
 refine wp_seq ?_
 refine wp_symQ hS hG hK (fun p4=>[.v 15 (.int .u32 10),.v 16 (.bool false),.v 17 (.bool false),.k (some 18),.k (some 19),.v 20 (.bool false)]) (fun p4=>[(1,.int .u32 10),(2,.int .i64 1),(3,.pointer (some ⟨(p1 0).N,0,none⟩)),(6,.pointer (some ⟨(p1 1).N,0,none⟩)),(7,.int .i64 0),(8,.int .i64 0),(12,.bool false),(20,.bool false)]) (by kernel_rfl) (fun _ _=>by kernel_rfl) (fun _=>by kernel_rfl) (fun _=>by kernel_rfl) (fun p4=>?_) (fun p4 W4 T hF hK=>?_)
 ·iterate 3 refine ok_v (by kernel_rfl) ?_
  iterate 2 refine ok_K (by kernel_rfl) ?_
  refine ok_v (by kernel_rfl) ?_
  exact ok_nil
 replace hS:=SymF.fb hS hF [0,1] [⟨(p1 0).N,#[.bool s,.slice a n c,.slice b k l],35,true⟩,⟨(p1 1).N,#[.bool false,.slice none 0 0,.slice none 0 0],35,true⟩] (by kernel_rfl) (by kernel_rfl)
 replace hG:=hF.gx
 clear hF
 have z4:=hS.fr.size
 refine wp_cond_false (hK.ev 20 (by kernel_rfl) _ (by kernel_rfl)) ?_
 refine wp_skip ?_
 refine then_n ?_
 refine wp_seq ?_
 refine wp_symQ hS hG hK (fun p5=>[.v 22 (.int .u32 10),.v 23 (.bool false),.v 24 (.bool false),.k (some 25),.k (some 26),.v 27 (.bool false)]) (fun p5=>[(1,.int .u32 10),(2,.int .i64 1),(3,.pointer (some ⟨(p1 0).N,0,none⟩)),(6,.pointer (some ⟨(p1 1).N,0,none⟩)),(7,.int .i64 0),(8,.int .i64 0),(12,.bool false),(20,.bool false),(27,.bool false)]) (by kernel_rfl) (fun _ _=>by kernel_rfl) (fun _=>by kernel_rfl) (fun _=>by kernel_rfl) (fun p5=>?_) (fun p5 W5 T hF hK=>?_)
 ·iterate 3 refine ok_v (by kernel_rfl) ?_
  iterate 2 refine ok_K (by kernel_rfl) ?_
  refine ok_v (by kernel_rfl) ?_
  exact ok_nil
 replace hS:=SymF.fb hS hF [0,1] [⟨(p1 0).N,#[.bool s,.slice a n c,.slice b k l],35,true⟩,⟨(p1 1).N,#[.bool false,.slice none 0 0,.slice none 0 0],35,true⟩] (by kernel_rfl) (by kernel_rfl)
 replace hG:=hF.gx
 clear hF
 have z5:=hS.fr.size
 refine wp_cond_false (hK.ev 27 (by kernel_rfl) _ (by kernel_rfl)) ?_
 refine wp_skip ?_
 refine then_n ?_
 refine wp_seq ?_
 refine wp_symQ hS hG hK (fun p6=>[.v 29 (.int .u32 10),.v 30 (.bool false),.v 31 (.bool false),.v 32 (.int .i64 1),.v 33 (.bool false),.v 34 (.bool false),.v 35 (.bool false),.v 36 (.pointer (some ⟨(p1 0).N,1,none⟩)),.l 37 (.agg #[.slice a n c]) 0 1,.c (some 38) (cV (.bool false)),.v 39 (.bool false)]) (fun p6=>[(1,.int .u32 10),(2,.int .i64 1),(3,.pointer (some ⟨(p1 0).N,0,none⟩)),(6,.pointer (some ⟨(p1 1).N,0,none⟩)),(7,.int .i64 0),(8,.int .i64 0),(12,.bool false),(20,.bool false),(27,.bool false),(39,.bool false)]) (by kernel_rfl) (fun _ _=>by kernel_rfl) (fun _=>by kernel_rfl) (fun _=>by kernel_rfl) (fun p6=>?_) (fun p6 W6 T hF hK=>?_)
 ·iterate 8 refine ok_v (by kernel_rfl) ?_
  refine ok_L (by kernel_rfl) (by kernel_rfl) (by kernel_rfl) ?_
  refine ok_c (fun W cx=>as_v (rnought_c a _ c _ _ (Num.noz (cx.G.1) hx))) (by kernel_rfl) ?_
  refine ok_v (by kernel_rfl) ?_
  exact ok_nil
 replace hS:=SymF.fb hS hF [0,1] [⟨(p1 0).N,#[.bool s,.slice a n c,.slice b k l],35,true⟩,⟨(p1 1).N,#[.bool false,.slice none 0 0,.slice none 0 0],35,true⟩] (by kernel_rfl) (by kernel_rfl)
 replace hG:=hF.gx
 clear hF
 have z6:=hS.fr.size
 refine wp_cond_false (hK.ev 39 (by kernel_rfl) _ (by kernel_rfl)) ?_
 refine wp_skip ?_
 refine then_n ?_
 refine wp_seq ?_
 refine wp_symQ hS hG hK (fun p7=>[.v 44 (.int .i64 1),.v 45 (.bool false)]) (fun p7=>[(1,.int .u32 10),(2,.int .i64 1),(3,.pointer (some ⟨(p1 0).N,0,none⟩)),(6,.pointer (some ⟨(p1 1).N,0,none⟩)),(7,.int .i64 0),(8,.int .i64 0),(12,.bool false),(20,.bool false),(27,.bool false),(39,.bool false),(45,.bool false)]) (by kernel_rfl) (fun _ _=>by kernel_rfl) (fun _=>by kernel_rfl) (fun _=>by kernel_rfl) (fun p7=>?_) (fun p7 W7 T hF hK=>?_)
 ·iterate 2 refine ok_v (by kernel_rfl) ?_
  exact ok_nil
 replace hS:=SymF.fb hS hF [0,1] [⟨(p1 0).N,#[.bool s,.slice a n c,.slice b k l],35,true⟩,⟨(p1 1).N,#[.bool false,.slice none 0 0,.slice none 0 0],35,true⟩] (by kernel_rfl) (by kernel_rfl)
 replace hG:=hF.gx
 clear hF
 have z7:=hS.fr.size
 refine wp_cond_false (hK.ev 45 (by kernel_rfl) _ (by kernel_rfl)) ?_
 refine wp_skip ?_
 refine then_n ?_
 refine wp_symQ hS hG hK (fun p8=>[.l 54 (.agg #[.bool s,.slice a n c,.slice b k l]) 0 0,.v 55 (.int .u32 10),.v 56 (.int .i64 1),.v 57 (.int .u64 1),.c (some 58) (cH W7.heap.size u v fun x9 y9=>.tuple #[.agg #[.bool t,x9,y9],.int .i64 0]),.v 59 (.agg #[.bool t,.slice (p8 4).A (p8 4).N (p8 4).C,.slice (p8 4).A' (p8 4).N' (p8 4).C']),.v 60 (.int .i64 0),.p 1 0 [.bool t,.slice (p8 4).A (p8 4).N (p8 4).C,.slice (p8 4).A' (p8 4).N' (p8 4).C'],.v 7 (.int .i64 0)]) (fun p8=>[(1,.int .u32 10),(2,.int .i64 1),(3,.pointer (some ⟨(p1 0).N,0,none⟩)),(6,.pointer (some ⟨(p1 1).N,0,none⟩)),(7,.int .i64 0),(8,.int .i64 0),(12,.bool false),(20,.bool false),(27,.bool false),(39,.bool false),(45,.bool false)]) (by kernel_rfl) (fun _ _=>by kernel_rfl) (fun _=>by kernel_rfl) (fun _=>by kernel_rfl) (fun p8=>?_) (fun p8 W8 T hF hK=>?_)
 ·refine ok_L (by kernel_rfl) (by kernel_rfl) (by kernel_rfl) ?_
  iterate 3 refine ok_v (by kernel_rfl) ?_
  refine ok_c (fun W cx=>as_h cx.hb (sscl_p _ s a b n c k l x y t u v (cx.G.1) (cx.G.2.1) HO)) (by kernel_rfl) ?_
  iterate 2 refine ok_v (by kernel_rfl) ?_
  refine ok_P (by kernel_rfl) (by kernel_rfl) (by kernel_rfl) ?_
  refine ok_v (by kernel_rfl) ?_
  exact ok_nil
 replace hS:=SymF.fb hS hF [0,1] [⟨(p1 0).N,#[.bool s,.slice a n c,.slice b k l],35,true⟩,⟨(p1 1).N,#[.bool t,.slice (p8 4).A (p8 4).N (p8 4).C,.slice (p8 4).A' (p8 4).N' (p8 4).C'],35,true⟩] (by kernel_rfl) (by kernel_rfl)
 replace hG:GsAt (gM W7.heap.size (p8 4).A (p8 4).N (p8 4).C u :: gM W7.heap.size (p8 4).A' (p8 4).N' (p8 4).C' v :: _) W8:=⟨And.left (hF.fx 4),And.right (hF.fx 4),hF.gx⟩
 clear hF
 have z8:=hS.fr.size
 refine wp_ret ?_
 exact sym_end hS hK (.tuple #[.agg #[.bool t,.slice (p8 4).A (p8 4).N (p8 4).C,.slice (p8 4).A' (p8 4).N' (p8 4).C'],.int .i64 0]) [(1,0,3)] [.bool t,.slice (p8 4).A (p8 4).N (p8 4).C,.slice (p8 4).A' (p8 4).N' (p8 4).C'] (by kernel_rfl) (by kernel_rfl) ⟨⟨_,_,_,_,_,_,rfl,Mine.mono hG.1 z7,Mine.mono hG.2.1 z7⟩,hS.fr⟩
theorem sscale0_p (w:World) (s:Bool) (a b:Option Addr) (n c k l x y:Nat) (hx:x = 0) (h1:Num w a n x) (h2:Num w b k y) (HC:Hid (∀ W:World,Num W a n x→Num W b k y→Calls Tryz.prog 24 #[.agg #[.bool s,.slice a n c,.slice b k l]] W fun e W'=>e = .returned (.int .i64 0)∧Below W.heap.size W W')) :
  Calls Tryz.prog 8 #[.agg #[.bool s,.slice a n c,.slice b k l],.int .u32 10,.int .i64 1] w fun en w'=>(∃ A N C A' N' C',en = .returned (.tuple #[.agg #[.bool s,.slice A N C,.slice A' N' C'],.int .i64 0])∧Mine w' w.heap.size A N C x∧Mine w' w.heap.size A' N' C' y)∧Below w.heap.size w w':=by
 refine calls_sym Tryz.func8 rfl (by kernel_rfl) fun T hK=>?_
 replace hK:Kn T _ [(0,.agg #[.bool s,.slice a n c,.slice b k l]),(1,.int .u32 10),(2,.int .i64 1)]:=hK
 have hS:=Fb.begin w
 have hG:GsAt [gN a n x,gN b k y] w:=⟨h1,h2,trivial⟩
 refine wp_symQ hS hG hK (fun p1=>[.n 3 #[.bool s,.slice a n c,.slice b k l] 35,.n 6 #[.bool false,.slice none 0 0,.slice none 0 0] 35,.v 7 (.int .i64 0)]) (fun p1=>[(1,.int .u32 10),(2,.int .i64 1),(3,.pointer (some ⟨(p1 0).N,0,none⟩)),(6,.pointer (some ⟨(p1 1).N,0,none⟩)),(7,.int .i64 0)]) (by kernel_rfl) (fun _ _=>by kernel_rfl) (fun _=>by kernel_rfl) (fun _=>by kernel_rfl) (fun p1=>?_) (fun p1 W1 T hF hK=>?_)
 ·iterate 2 refine ok_n (fun _=>by kernel_rfl) ?_
  refine ok_v (by kernel_rfl) ?_
  exact ok_nil
 replace hS:=SymF.fb hS hF [1000,1001] [⟨(p1 0).N,#[.bool s,.slice a n c,.slice b k l],35,true⟩,⟨(p1 1).N,#[.bool false,.slice none 0 0,.slice none 0 0],35,true⟩] (by kernel_rfl) (by kernel_rfl)
 replace hG:=hF.gx
 clear hF
 have z1:=hS.fr.size
 refine wp_seq ?_
 refine wp_symQ hS hG hK (fun p2=>[.l 9 (.agg #[.bool s,.slice a n c,.slice b k l]) 0 0,.c (some 10) (cV (.int .i64 0)),.v 8 (.int .i64 0)]) (fun p2=>[(1,.int .u32 10),(2,.int .i64 1),(3,.pointer (some ⟨(p1 0).N,0,none⟩)),(6,.pointer (some ⟨(p1 1).N,0,none⟩)),(7,.int .i64 0),(8,.int .i64 0)]) (by kernel_rfl) (fun _ _=>by kernel_rfl) (fun _=>by kernel_rfl) (fun _=>by kernel_rfl) (fun p2=>?_) (fun p2 W2 T hF hK=>?_)
 ·refine ok_L (by kernel_rfl) (by kernel_rfl) (by kernel_rfl) ?_
  refine ok_c (fun W cx=>as_v (unhide HC _ (cx.G.1) (cx.G.2.1))) (by kernel_rfl) ?_
  refine ok_v (by kernel_rfl) ?_
  exact ok_nil
 replace hS:=SymF.fb hS hF [0,1] [⟨(p1 0).N,#[.bool s,.slice a n c,.slice b k l],35,true⟩,⟨(p1 1).N,#[.bool false,.slice none 0 0,.slice none 0 0],35,true⟩] (by kernel_rfl) (by kernel_rfl)
 replace hG:=hF.gx
 clear hF
 have z2:=hS.fr.size
 refine wp_symQ hS hG hK (fun p3=>[.v 11 (.int .i64 0),.v 12 (.bool false)]) (fun p3=>[(1,.int .u32 10),(2,.int .i64 1),(3,.pointer (some ⟨(p1 0).N,0,none⟩)),(6,.pointer (some ⟨(p1 1).N,0,none⟩)),(7,.int .i64 0),(8,.int .i64 0),(12,.bool false)]) (by kernel_rfl) (fun _ _=>by kernel_rfl) (fun _=>by kernel_rfl) (fun _=>by kernel_rfl) (fun p3=>?_) (fun p3 W3 T hF hK=>?_)
 ·iterate 2 refine ok_v (by kernel_rfl) ?_
  exact ok_nil
 replace hS:=SymF.fb hS hF [0,1] [⟨(p1 0).N,#[.bool s,.slice a n c,.slice b k l],35,true⟩,⟨(p1 1).N,#[.bool false,.slice none 0 0,.slice none 0 0],35,true⟩] (by kernel_rfl) (by kernel_rfl)
 replace hG:=hF.gx
 clear hF
 have z3:=hS.fr.size
 refine wp_cond_false (hK.ev 12 (by kernel_rfl) _ (by kernel_rfl)) ?_
 refine wp_skip ?_
 refine then_n ?_
 refine wp_seq ?_
 refine wp_symQ hS hG hK (fun p4=>[.v 15 (.int .u32 10),.v 16 (.bool false),.v 17 (.bool false),.k (some 18),.k (some 19),.v 20 (.bool false)]) (fun p4=>[(1,.int .u32 10),(2,.int .i64 1),(3,.pointer (some ⟨(p1 0).N,0,none⟩)),(6,.pointer (some ⟨(p1 1).N,0,none⟩)),(7,.int .i64 0),(8,.int .i64 0),(12,.bool false),(20,.bool false)]) (by kernel_rfl) (fun _ _=>by kernel_rfl) (fun _=>by kernel_rfl) (fun _=>by kernel_rfl) (fun p4=>?_) (fun p4 W4 T hF hK=>?_)
 ·iterate 3 refine ok_v (by kernel_rfl) ?_
  iterate 2 refine ok_K (by kernel_rfl) ?_
  refine ok_v (by kernel_rfl) ?_
  exact ok_nil
 replace hS:=SymF.fb hS hF [0,1] [⟨(p1 0).N,#[.bool s,.slice a n c,.slice b k l],35,true⟩,⟨(p1 1).N,#[.bool false,.slice none 0 0,.slice none 0 0],35,true⟩] (by kernel_rfl) (by kernel_rfl)
 replace hG:=hF.gx
 clear hF
 have z4:=hS.fr.size
 refine wp_cond_false (hK.ev 20 (by kernel_rfl) _ (by kernel_rfl)) ?_
 refine wp_skip ?_
 refine then_n ?_
 refine wp_seq ?_
 refine wp_symQ hS hG hK (fun p5=>[.v 22 (.int .u32 10),.v 23 (.bool false),.v 24 (.bool false),.k (some 25),.k (some 26),.v 27 (.bool false)]) (fun p5=>[(1,.int .u32 10),(2,.int .i64 1),(3,.pointer (some ⟨(p1 0).N,0,none⟩)),(6,.pointer (some ⟨(p1 1).N,0,none⟩)),(7,.int .i64 0),(8,.int .i64 0),(12,.bool false),(20,.bool false),(27,.bool false)]) (by kernel_rfl) (fun _ _=>by kernel_rfl) (fun _=>by kernel_rfl) (fun _=>by kernel_rfl) (fun p5=>?_) (fun p5 W5 T hF hK=>?_)
 ·iterate 3 refine ok_v (by kernel_rfl) ?_
  iterate 2 refine ok_K (by kernel_rfl) ?_
  refine ok_v (by kernel_rfl) ?_
  exact ok_nil
 replace hS:=SymF.fb hS hF [0,1] [⟨(p1 0).N,#[.bool s,.slice a n c,.slice b k l],35,true⟩,⟨(p1 1).N,#[.bool false,.slice none 0 0,.slice none 0 0],35,true⟩] (by kernel_rfl) (by kernel_rfl)
 replace hG:=hF.gx
 clear hF
 have z5:=hS.fr.size
 refine wp_cond_false (hK.ev 27 (by kernel_rfl) _ (by kernel_rfl)) ?_
 refine wp_skip ?_
 refine then_n ?_
 refine wp_seq ?_
 refine wp_symQ hS hG hK (fun p6=>[.v 29 (.int .u32 10),.v 30 (.bool false),.v 31 (.bool false),.v 32 (.int .i64 1),.v 33 (.bool false),.v 34 (.bool false),.v 35 (.bool false),.v 36 (.pointer (some ⟨(p1 0).N,1,none⟩)),.l 37 (.agg #[.slice a n c]) 0 1,.c (some 38) (cV (.bool true)),.v 39 (.bool true)]) (fun p6=>[(1,.int .u32 10),(2,.int .i64 1),(3,.pointer (some ⟨(p1 0).N,0,none⟩)),(6,.pointer (some ⟨(p1 1).N,0,none⟩)),(7,.int .i64 0),(8,.int .i64 0),(12,.bool false),(20,.bool false),(27,.bool false),(39,.bool true)]) (by kernel_rfl) (fun _ _=>by kernel_rfl) (fun _=>by kernel_rfl) (fun _=>by kernel_rfl) (fun p6=>?_) (fun p6 W6 T hF hK=>?_)
 ·iterate 8 refine ok_v (by kernel_rfl) ?_
  refine ok_L (by kernel_rfl) (by kernel_rfl) (by kernel_rfl) ?_
  refine ok_c (fun W cx=>as_v (rnought_c a _ c _ _ (Num.isz (cx.G.1) hx))) (by kernel_rfl) ?_
  refine ok_v (by kernel_rfl) ?_
  exact ok_nil
 replace hS:=SymF.fb hS hF [0,1] [⟨(p1 0).N,#[.bool s,.slice a n c,.slice b k l],35,true⟩,⟨(p1 1).N,#[.bool false,.slice none 0 0,.slice none 0 0],35,true⟩] (by kernel_rfl) (by kernel_rfl)
 replace hG:=hF.gx
 clear hF
 have z6:=hS.fr.size
 refine wp_cond_true (hK.ev 39 (by kernel_rfl) _ (by kernel_rfl)) ?_
 refine wp_symQ hS hG hK (fun p7=>[.v 40 (.pointer (some ⟨(p1 0).N,0,none⟩)),.l 41 (.bool s) 0 0,.l 42 (.agg #[.bool s,.slice a n c,.slice b k l]) 0 0,.c (some 43) (cH W6.heap.size x y fun x9 y9=>.agg #[.bool s,x9,y9]),.p 1 0 [.bool s,.slice (p7 3).A (p7 3).N (p7 3).C,.slice (p7 3).A' (p7 3).N' (p7 3).C'],.v 7 (.int .i64 0)]) (fun p7=>[(1,.int .u32 10),(2,.int .i64 1),(3,.pointer (some ⟨(p1 0).N,0,none⟩)),(6,.pointer (some ⟨(p1 1).N,0,none⟩)),(7,.int .i64 0),(8,.int .i64 0),(12,.bool false),(20,.bool false),(27,.bool false),(39,.bool true)]) (by kernel_rfl) (fun _ _=>by kernel_rfl) (fun _=>by kernel_rfl) (fun _=>by kernel_rfl) (fun p7=>?_) (fun p7 W7 T hF hK=>?_)
 ·refine ok_v (by kernel_rfl) ?_
  iterate 2 refine ok_L (by kernel_rfl) (by kernel_rfl) (by kernel_rfl) ?_
  refine ok_c (fun W cx=>as_h cx.hb (scopied_is _ s a b n c k l x y (s) (cx.G.1) (cx.G.2.1))) (by kernel_rfl) ?_
  refine ok_P (by kernel_rfl) (by kernel_rfl) (by kernel_rfl) ?_
  refine ok_v (by kernel_rfl) ?_
  exact ok_nil
 replace hS:=SymF.fb hS hF [0,1] [⟨(p1 0).N,#[.bool s,.slice a n c,.slice b k l],35,true⟩,⟨(p1 1).N,#[.bool s,.slice (p7 3).A (p7 3).N (p7 3).C,.slice (p7 3).A' (p7 3).N' (p7 3).C'],35,true⟩] (by kernel_rfl) (by kernel_rfl)
 replace hG:GsAt (gM W6.heap.size (p7 3).A (p7 3).N (p7 3).C x :: gM W6.heap.size (p7 3).A' (p7 3).N' (p7 3).C' y :: _) W7:=⟨And.left (hF.fx 3),And.right (hF.fx 3),hF.gx⟩
 clear hF
 have z7:=hS.fr.size
 refine wp_ret ?_
 refine then_r ?_
 exact sym_end hS hK (.tuple #[.agg #[.bool s,.slice (p7 3).A (p7 3).N (p7 3).C,.slice (p7 3).A' (p7 3).N' (p7 3).C'],.int .i64 0]) [(1,0,3)] [.bool s,.slice (p7 3).A (p7 3).N (p7 3).C,.slice (p7 3).A' (p7 3).N' (p7 3).C'] (by kernel_rfl) (by kernel_rfl) ⟨⟨_,_,_,_,_,_,rfl,Mine.mono hG.1 z6,Mine.mono hG.2.1 z6⟩,hS.fr⟩
theorem sstand_0p (w:World) (s:Bool) (a b:Option Addr) (n c k l:Nat) (h1:Num w a n 0) :
  Calls Tryz.prog 35 #[.agg #[.bool s,.slice a n c,.slice b k l],.int .i64 1] w fun en w'=>en = .returned (.tuple #[.agg #[.bool false,.slice none 0 0,.int .i64 0],.int .i64 0])∧Below w.heap.size w w':=by
 refine calls_sym Tryz.func35 rfl (by kernel_rfl) fun T hK=>?_
 replace hK:Kn T _ [(0,.agg #[.bool s,.slice a n c,.slice b k l]),(1,.int .i64 1)]:=hK
 have hS:=Fb.begin w
 have hG:GsAt [gN a n 0] w:=⟨h1,trivial⟩
 refine wp_symQ hS hG hK (fun p1=>[.n 2 #[.bool s,.slice a n c,.slice b k l] 35,.n 4 #[.bool false,.slice none 0 0,.int .i64 0] 30,.v 5 (.int .i64 0)]) (fun p1=>[(1,.int .i64 1),(2,.pointer (some ⟨(p1 0).N,0,none⟩)),(4,.pointer (some ⟨(p1 1).N,0,none⟩)),(5,.int .i64 0)]) (by kernel_rfl) (fun _ _=>by kernel_rfl) (fun _=>by kernel_rfl) (fun _=>by kernel_rfl) (fun p1=>?_) (fun p1 W1 T hF hK=>?_)
 ·iterate 2 refine ok_n (fun _=>by kernel_rfl) ?_
  refine ok_v (by kernel_rfl) ?_
  exact ok_nil
 replace hS:=SymF.fb hS hF [1000,1001] [⟨(p1 0).N,#[.bool s,.slice a n c,.slice b k l],35,true⟩,⟨(p1 1).N,#[.bool false,.slice none 0 0,.int .i64 0],30,true⟩] (by kernel_rfl) (by kernel_rfl)
 replace hG:=hF.gx
 clear hF
 have z1:=hS.fr.size
 refine wp_seq ?_
 refine wp_symQ hS hG hK (fun p2=>[.v 10 (.pointer (some ⟨(p1 0).N,1,none⟩)),.l 11 (.agg #[.slice a n c]) 0 1,.c (some 12) (cV (.bool true))]) (fun p2=>[(1,.int .i64 1),(2,.pointer (some ⟨(p1 0).N,0,none⟩)),(4,.pointer (some ⟨(p1 1).N,0,none⟩)),(5,.int .i64 0),(12,.bool true)]) (by kernel_rfl) (fun _ _=>by kernel_rfl) (fun _=>by kernel_rfl) (fun _=>by kernel_rfl) (fun p2=>?_) (fun p2 W2 T hF hK=>?_)
 ·refine ok_v (by kernel_rfl) ?_
  refine ok_L (by kernel_rfl) (by kernel_rfl) (by kernel_rfl) ?_
  refine ok_c (fun W cx=>as_v (snought a _ c _ _ (Num.isz (cx.G.1) rfl))) (by kernel_rfl) ?_
  exact ok_nil
 replace hS:=SymF.fb hS hF [0,1] [⟨(p1 0).N,#[.bool s,.slice a n c,.slice b k l],35,true⟩,⟨(p1 1).N,#[.bool false,.slice none 0 0,.int .i64 0],30,true⟩] (by kernel_rfl) (by kernel_rfl)
 replace hG:=hF.gx
 clear hF
 have z2:=hS.fr.size
 refine wp_cond_true (hK.ev 12 (by kernel_rfl) _ (by kernel_rfl)) ?_
 refine wp_symQ hS hG hK (fun p3=>[.v 13 (.agg #[.bool false,.slice none 0 0,.int .i64 0]),.p 1 0 [.bool false,.slice none 0 0,.int .i64 0],.v 5 (.int .i64 0)]) (fun p3=>[(1,.int .i64 1),(2,.pointer (some ⟨(p1 0).N,0,none⟩)),(4,.pointer (some ⟨(p1 1).N,0,none⟩)),(5,.int .i64 0),(12,.bool true)]) (by kernel_rfl) (fun _ _=>by kernel_rfl) (fun _=>by kernel_rfl) (fun _=>by kernel_rfl) (fun p3=>?_) (fun p3 W3 T hF hK=>?_)
 ·refine ok_v (by kernel_rfl) ?_
  refine ok_P (by kernel_rfl) (by kernel_rfl) (by kernel_rfl) ?_
  refine ok_v (by kernel_rfl) ?_
  exact ok_nil
 replace hS:=SymF.fb hS hF [0,1] [⟨(p1 0).N,#[.bool s,.slice a n c,.slice b k l],35,true⟩,⟨(p1 1).N,#[.bool false,.slice none 0 0,.int .i64 0],30,true⟩] (by kernel_rfl) (by kernel_rfl)
 replace hG:=hF.gx
 clear hF
 have z3:=hS.fr.size
 refine wp_ret ?_
 refine then_r ?_
 exact sym_end hS hK (.tuple #[.agg #[.bool false,.slice none 0 0,.int .i64 0],.int .i64 0]) [(1,0,3)] [.bool false,.slice none 0 0,.int .i64 0] (by kernel_rfl) (by kernel_rfl) ⟨rfl,hS.fr⟩
theorem sstand_0m (w:World) (s:Bool) (a b:Option Addr) (n c k l:Nat) (h1:Num w a n 0) :
  Calls Tryz.prog 35 #[.agg #[.bool s,.slice a n c,.slice b k l],.int .i64 (-1)] w fun en w'=>en = .returned (.tuple #[.agg #[.bool false,.slice none 0 0,.int .i64 0],.int .i64 0])∧Below w.heap.size w w':=by
 refine calls_sym Tryz.func35 rfl (by kernel_rfl) fun T hK=>?_
 replace hK:Kn T _ [(0,.agg #[.bool s,.slice a n c,.slice b k l]),(1,.int .i64 (-1))]:=hK
 have hS:=Fb.begin w
 have hG:GsAt [gN a n 0] w:=⟨h1,trivial⟩
 refine wp_symQ hS hG hK (fun p1=>[.n 2 #[.bool s,.slice a n c,.slice b k l] 35,.n 4 #[.bool false,.slice none 0 0,.int .i64 0] 30,.v 5 (.int .i64 0)]) (fun p1=>[(1,.int .i64 (-1)),(2,.pointer (some ⟨(p1 0).N,0,none⟩)),(4,.pointer (some ⟨(p1 1).N,0,none⟩)),(5,.int .i64 0)]) (by kernel_rfl) (fun _ _=>by kernel_rfl) (fun _=>by kernel_rfl) (fun _=>by kernel_rfl) (fun p1=>?_) (fun p1 W1 T hF hK=>?_)
 ·iterate 2 refine ok_n (fun _=>by kernel_rfl) ?_
  refine ok_v (by kernel_rfl) ?_
  exact ok_nil
 replace hS:=SymF.fb hS hF [1000,1001] [⟨(p1 0).N,#[.bool s,.slice a n c,.slice b k l],35,true⟩,⟨(p1 1).N,#[.bool false,.slice none 0 0,.int .i64 0],30,true⟩] (by kernel_rfl) (by kernel_rfl)
 replace hG:=hF.gx
 clear hF
 have z1:=hS.fr.size
 refine wp_seq ?_
 refine wp_symQ hS hG hK (fun p2=>[.v 10 (.pointer (some ⟨(p1 0).N,1,none⟩)),.l 11 (.agg #[.slice a n c]) 0 1,.c (some 12) (cV (.bool true))]) (fun p2=>[(1,.int .i64 (-1)),(2,.pointer (some ⟨(p1 0).N,0,none⟩)),(4,.pointer (some ⟨(p1 1).N,0,none⟩)),(5,.int .i64 0),(12,.bool true)]) (by kernel_rfl) (fun _ _=>by kernel_rfl) (fun _=>by kernel_rfl) (fun _=>by kernel_rfl) (fun p2=>?_) (fun p2 W2 T hF hK=>?_)
 ·refine ok_v (by kernel_rfl) ?_
  refine ok_L (by kernel_rfl) (by kernel_rfl) (by kernel_rfl) ?_
  refine ok_c (fun W cx=>as_v (snought a _ c _ _ (Num.isz (cx.G.1) rfl))) (by kernel_rfl) ?_
  exact ok_nil
 replace hS:=SymF.fb hS hF [0,1] [⟨(p1 0).N,#[.bool s,.slice a n c,.slice b k l],35,true⟩,⟨(p1 1).N,#[.bool false,.slice none 0 0,.int .i64 0],30,true⟩] (by kernel_rfl) (by kernel_rfl)
 replace hG:=hF.gx
 clear hF
 have z2:=hS.fr.size
 refine wp_cond_true (hK.ev 12 (by kernel_rfl) _ (by kernel_rfl)) ?_
 refine wp_symQ hS hG hK (fun p3=>[.v 13 (.agg #[.bool false,.slice none 0 0,.int .i64 0]),.p 1 0 [.bool false,.slice none 0 0,.int .i64 0],.v 5 (.int .i64 0)]) (fun p3=>[(1,.int .i64 (-1)),(2,.pointer (some ⟨(p1 0).N,0,none⟩)),(4,.pointer (some ⟨(p1 1).N,0,none⟩)),(5,.int .i64 0),(12,.bool true)]) (by kernel_rfl) (fun _ _=>by kernel_rfl) (fun _=>by kernel_rfl) (fun _=>by kernel_rfl) (fun p3=>?_) (fun p3 W3 T hF hK=>?_)
 ·refine ok_v (by kernel_rfl) ?_
  refine ok_P (by kernel_rfl) (by kernel_rfl) (by kernel_rfl) ?_
  refine ok_v (by kernel_rfl) ?_
  exact ok_nil
 replace hS:=SymF.fb hS hF [0,1] [⟨(p1 0).N,#[.bool s,.slice a n c,.slice b k l],35,true⟩,⟨(p1 1).N,#[.bool false,.slice none 0 0,.int .i64 0],30,true⟩] (by kernel_rfl) (by kernel_rfl)
 replace hG:=hF.gx
 clear hF
 have z3:=hS.fr.size
 refine wp_ret ?_
 refine then_r ?_
 exact sym_end hS hK (.tuple #[.agg #[.bool false,.slice none 0 0,.int .i64 0],.int .i64 0]) [(1,0,3)] [.bool false,.slice none 0 0,.int .i64 0] (by kernel_rfl) (by kernel_rfl) ⟨rfl,hS.fr⟩
end Go.Proofs.YtbbhlfngjoongaaGreatDoor
