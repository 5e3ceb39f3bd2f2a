/- Of what DigitsSureRow stands on: DcMulW. -/
import Derived.Test.YteafdlblemdclaaGreatDoorPap
import Derived.Test.YteafdlblemdclaaGreatDoorPaf
import Derived.Test.YteafdlblemdclaaGreatDoorPan
import Derived.Test.YteafdlblemdclaaGreatDoorPat
import Derived.Test.YteafdlblemdclaaGreatDoorPah
import Derived.Test.YteafdlblemdclaaGreatDoorPal
import Derived.Test.YteafdlblemdclaaGreatDoorPad
import Derived.Test.YteafdlblemdclaaGreatDoorPaj
import Derived.Test.YteafdlblemdclaaGreatDoorPam
import Derived.Test.YteafdlblemdclaaGreatDoorProg
import Derived.WalkKit
import Derived.WalkSpells
import Derived.WalkLawsBesides
import Derived.Test.YteafdlblemdclaaGreatDoorPac
import Derived.Test.YteafdlblemdclaaGreatDoorPak
import Derived.Deep.LoopGhost
import Derived.BigQuiet
import Derived.Test.YteafdlblemdclaaGreatDoorPai
namespace Go.Proofs.YteafdlblemdclaaGreatDoor
open Go.RowKit
set_option maxHeartbeats 2000000
set_option maxRecDepth 20000
theorem dnum_is (w:World) (g:Bool) (s:ByteArray) (x:Int) (m:Nat) (HP:Hid (∀ W:World,Calls Tryz.prog 70 #[.string s] W fun en W'=>(∃ a n c,en = .returned (.tuple #[.agg #[.slice a n c],.int .i64 0,.int .i64 0])∧Mine W' W.heap.size a n c m)∧Below W.heap.size W W')) :
  Calls Tryz.prog 35 #[.agg #[.bool g,.string s,.int .i64 x]] w fun en w'=>(∃ a n c,en = .returned (.agg #[.slice a n c])∧Mine w' w.heap.size a n c m)∧Below w.heap.size w w':=by
 refine calls_sym Tryz.func35 rfl (by kernel_rfl) fun T hK=>?_
 replace hK:Kn T _ [(0,.agg #[.bool g,.string s,.int .i64 x])]:=hK
 have hS:=Fb.begin w
 have hG:GsAt [] w:=trivial
 refine wq hS hG hK (fun p1=>[.n 1 #[.bool g,.string s,.int .i64 x] 35,.n 2 #[.slice none 0 0] 28]) (fun p1=>[(1,pT (p1 0).N 0),(2,pT (p1 1).N 0)]) (fun p1=>?_) (fun p1 W1 T hF hK=>?_)
 ·iterate 2 refine okn ?_
  exact ok_nil
 replace hS:=SymF.fc hS hF [1000,1001] [⟨(p1 0).N,#[.bool g,.string s,.int .i64 x],35,true⟩,⟨(p1 1).N,#[.slice none 0 0],28,true⟩]
 replace hG:=hF.gx
 clear hF
 have z1:=hS.fr.size
 refine wq hS hG hK (fun p2=>[.v 7 (pT (p1 0).N 1),.l 8 (.string s) 0 1,.c (some 9) (cG W1.heap.size m fun x9=>.tuple #[.agg #[x9],.int .i64 0,.int .i64 0]),.v 6 (.tuple #[.agg #[.slice (p2 2).A (p2 2).N (p2 2).C],.int .i64 0,.int .i64 0]),.v 10 (.agg #[.slice (p2 2).A (p2 2).N (p2 2).C]),.v 11 (.int .i64 0),.v 12 (.int .i64 0),.n 3 #[.slice none 0 0] 28,.p 1007 0 [.slice (p2 2).A (p2 2).N (p2 2).C],.v 4 (.int .i64 0),.v 5 (.int .i64 0)]) (fun p2=>[(2,pT (p1 1).N 0),(3,pT (p2 7).N 0)]) (fun p2=>?_) (fun p2 W2 T hF hK=>?_)
 ·refine okv ?_
  refine okl ?_
  refine okc (fun W cx=>as_g cx.hb (unhide HP _)) ?_
  iterate 4 refine okv ?_
  refine okn ?_
  refine okp ?_
  iterate 2 refine okv ?_
  exact ok_nil
 replace hS:=SymF.fc hS hF [1,1007] [⟨(p1 1).N,#[.slice none 0 0],28,true⟩,⟨(p2 7).N,#[.slice (p2 2).A (p2 2).N (p2 2).C],28,true⟩]
 replace hG:GsAt (gM W1.heap.size (p2 2).A (p2 2).N (p2 2).C m :: _) W2:=⟨hF.fx 2,hF.gx⟩
 clear hF
 refine wq hS hG hK (fun p3=>[.l 13 (.agg #[.slice (p2 2).A (p2 2).N (p2 2).C]) 1 0,.p 0 0 [.slice (p2 2).A (p2 2).N (p2 2).C]]) (fun p3=>[(2,pT (p1 1).N 0)]) (fun p3=>?_) (fun p3 W3 T hF hK=>?_)
 ·refine okl ?_
  refine okp ?_
  exact ok_nil
 replace hS:=SymF.fc hS hF [0] [⟨(p1 1).N,#[.slice (p2 2).A (p2 2).N (p2 2).C],28,true⟩]
 replace hG:=hF.gx
 clear hF
 refine wp_ret ?_
 exact sym_end hS hK (.agg #[.slice (p2 2).A (p2 2).N (p2 2).C]) [(0,0,1)] [.slice (p2 2).A (p2 2).N (p2 2).C] (by kernel_rfl) (by kernel_rfl) ⟨⟨_,_,_,rfl,Mine.mono hG.1 z1⟩,hS.fr⟩
end Go.Proofs.YteafdlblemdclaaGreatDoor
