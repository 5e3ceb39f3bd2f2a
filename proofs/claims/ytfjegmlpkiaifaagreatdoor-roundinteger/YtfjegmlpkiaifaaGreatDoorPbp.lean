/- Of what RoundIntegerRow stands on: RiWhole SKey RsHalf SFrac SRatC SAlive RsWalk RsAll SOrdA SOrdW. -/
import Derived.Test.YtfjegmlpkiaifaaGreatDoorPbj
import Derived.Test.YtfjegmlpkiaifaaGreatDoorPbo
import Derived.Test.YtfjegmlpkiaifaaGreatDoorPbd
import Derived.Test.YtfjegmlpkiaifaaGreatDoorPba
import Derived.Test.YtfjegmlpkiaifaaGreatDoorPbg
import Derived.Test.YtfjegmlpkiaifaaGreatDoorPao
import Derived.Test.YtfjegmlpkiaifaaGreatDoorPaw
namespace Go.Proofs.YtfjegmlpkiaifaaGreatDoor
open Go.RowKit
set_option maxHeartbeats 2000000
set_option maxRecDepth 20000
theorem whole_own (w:World) (s:Bool) (a1 a2:Option Addr) (n1 n2 c1 c2 p d q r md:Nat) (h1:Num w a1 n1 p) (h2:Num w a2 n2 d) (HC:Hid (∀ W:World,Below w.heap.size w W→Calls Tryz.prog 29 #[.agg #[.bool s,.slice a1 n1 c1,.slice a2 n2 c2],.int .u8 (md:Int)] W fun e W'=>e = .returned (.int .i64 0)∧Below W.heap.size W W')) (HD:Hid (HDiv p d q r)) (hr:r = 0) :
  Calls Tryz.prog 13 #[.agg #[.bool s,.slice a1 n1 c1,.slice a2 n2 c2],.int .u8 (md:Int)] w fun en w'=>(∃ A N C,en = .returned (.tuple #[.bool s,.agg #[.slice A N C],.bool true,.int .i64 0])∧Mine w' w.heap.size A N C q)∧Below w.heap.size w w':=by
 refine calls_sym Tryz.func13 rfl (by kernel_rfl) fun T hK=>?_
 replace hK:Kn T _ [(0,.agg #[.bool s,.slice a1 n1 c1,.slice a2 n2 c2]),(1,.int .u8 (md:Int))]:=hK
 have hS:=Fb.begin w
 have hG:GsAt [gN a1 n1 p,gN a2 n2 d] w:=⟨h1,h2,trivial⟩
 refine wq hS hG hK (fun p1=>[.n 2 #[.bool s,.slice a1 n1 c1,.slice a2 n2 c2] 28,.v 4 (.bool false),.n 5 #[.slice none 0 0] 26,.v 6 (.bool false),.v 7 (.int .i64 0)]) (fun p1=>[(1,.int .u8 (md:Int)),(2,pT (p1 0).N 0),(4,.bool false),(5,pT (p1 2).N 0),(6,.bool false),(7,.int .i64 0)]) (fun p1=>?_) (fun p1 W1 T hF hK=>?_)
 ·refine okn ?_
  refine okv ?_
  refine okn ?_
  iterate 2 refine okv ?_
  exact ok_nil
 replace hS:=SymF.fc hS hF [1000,1002] [⟨(p1 0).N,#[.bool s,.slice a1 n1 c1,.slice a2 n2 c2],28,true⟩,⟨(p1 2).N,#[.slice none 0 0],26,true⟩]
 replace hG:=hF.gx
 clear hF
 refine wp_seq ?_
 refine wq hS hG hK (fun p2=>[.l 14 (.agg #[.bool s,.slice a1 n1 c1,.slice a2 n2 c2]) 0 0,.v 15 (.int .u8 (md:Int)),.c (some 16) (cV (.int .i64 0)),.v 8 (.int .i64 0)]) (fun p2=>[(1,.int .u8 (md:Int)),(2,pT (p1 0).N 0),(4,.bool false),(5,pT (p1 2).N 0),(6,.bool false),(7,.int .i64 0),(8,.int .i64 0)]) (fun p2=>?_) (fun p2 W2 T hF hK=>?_)
 ·refine okl ?_
  refine okv ?_
  refine okc (fun W cx=>as_v (unhide HC _ cx.fr)) ?_
  refine okv ?_
  exact ok_nil
 obtain ⟨hS,hG⟩:=SymF.fg hS hF
 clear hF
 refine wq hS hG hK (fun p3=>[.v 17 (.int .i64 0),.v 18 (.bool false)]) (fun p3=>[(1,.int .u8 (md:Int)),(2,pT (p1 0).N 0),(4,.bool false),(5,pT (p1 2).N 0),(6,.bool false),(7,.int .i64 0),(8,.int .i64 0),(18,.bool false)]) (fun p3=>?_) (fun p3 W3 T hF hK=>?_)
 ·iterate 2 refine okv ?_
  exact ok_nil
 obtain ⟨hS,hG⟩:=SymF.fg hS hF
 clear hF
 refine wp_cond_false (hK.ew 18) (wp_skip (then_n ?_))
 refine wq hS hG hK (fun p4=>[.n 9 #[.int .i64 0] 72]) (fun p4=>[(1,.int .u8 (md:Int)),(2,pT (p1 0).N 0),(4,.bool false),(5,pT (p1 2).N 0),(6,.bool false),(7,.int .i64 0),(8,.int .i64 0),(9,pT (p4 0).N 0)]) (fun p4=>?_) (fun p4 W4 T hF hK=>?_)
 ·refine okn ?_
  exact ok_nil
 replace hS:=SymF.fc hS hF [0,1,1000] [⟨(p1 0).N,#[.bool s,.slice a1 n1 c1,.slice a2 n2 c2],28,true⟩,⟨(p1 2).N,#[.slice none 0 0],26,true⟩,⟨(p4 0).N,#[.int .i64 0],72,true⟩]
 replace hG:=hF.gx
 clear hF
 have z4:=hS.fr.size
 refine wq hS hG hK (fun p5=>[.v 22 (pT (p1 0).N 1),.l 23 (.agg #[.slice a1 n1 c1]) 0 1,.v 24 (pT (p1 0).N 2),.l 25 (.agg #[.slice a2 n2 c2]) 0 2,.c (some 26) (cH W4.heap.size q r fun x9 y9=>.tuple #[.agg #[x9],.agg #[y9],.int .i64 0]),.v 27 (.agg #[.slice (p5 4).A (p5 4).N (p5 4).C]),.v 28 (.agg #[.slice (p5 4).A' (p5 4).N' (p5 4).C']),.v 29 (.int .i64 0),.u 30 (.tuple #[.agg #[.slice (p5 4).A (p5 4).N (p5 4).C],.agg #[.slice (p5 4).A' (p5 4).N' (p5 4).C']]) (aH 1 2),.v 21 (.tuple #[.agg #[.slice (p5 4).A (p5 4).N (p5 4).C],.agg #[.slice (p5 4).A' (p5 4).N' (p5 4).C']]),.v 31 (.agg #[.slice (p5 4).A (p5 4).N (p5 4).C]),.v 32 (.agg #[.slice (p5 4).A' (p5 4).N' (p5 4).C']),.n 10 #[.slice none 0 0] 26,.p 1 0 [.slice (p5 4).A (p5 4).N (p5 4).C],.p 1012 0 [.slice (p5 4).A' (p5 4).N' (p5 4).C']]) (fun p5=>[(1,.int .u8 (md:Int)),(2,pT (p1 0).N 0),(4,.bool false),(5,pT (p1 2).N 0),(6,.bool false),(7,.int .i64 0),(8,.int .i64 0),(9,pT (p4 0).N 0),(10,pT (p5 12).N 0)]) (fun p5=>?_) (fun p5 W5 T hF hK=>?_)
 ·refine okv ?_
  refine okl ?_
  refine okv ?_
  refine okl ?_
  refine okc (fun W cx=>as_h cx.hb (unhide HD _ _ _ c1 _ _ c2 (cx.G.1) (cx.G.2.1))) ?_
  iterate 3 refine okv ?_
  refine oku (fun W cx=>runNats_z (p4 0).N 0 _ _ _ _ _ _ _ ⟨_,_,cx.B 2 _ rfl (by kernel_rfl) (by kernel_rfl),rfl⟩) ?_
  iterate 3 refine okv ?_
  refine okn ?_
  iterate 2 refine okp ?_
  exact ok_nil
 replace hS:=SymF.fc hS hF [0,1,2,1012] [⟨(p1 0).N,#[.bool s,.slice a1 n1 c1,.slice a2 n2 c2],28,true⟩,⟨(p1 2).N,#[.slice (p5 4).A (p5 4).N (p5 4).C],26,true⟩,⟨(p4 0).N,#[.int .i64 0],72,true⟩,⟨(p5 12).N,#[.slice (p5 4).A' (p5 4).N' (p5 4).C'],26,true⟩]
 replace hG:GsAt (gM W4.heap.size (p5 4).A (p5 4).N (p5 4).C q :: gM W4.heap.size (p5 4).A' (p5 4).N' (p5 4).C' r :: _) W5:=⟨And.left (hF.fx 4),And.right (hF.fx 4),hF.gx⟩
 clear hF
 refine wp_seq ?_
 refine wq hS hG hK (fun p6=>[.l 33 (.agg #[.slice (p5 4).A' (p5 4).N' (p5 4).C']) 3 0,.c (some 34) (cV (.bool true))]) (fun p6=>[(1,.int .u8 (md:Int)),(2,pT (p1 0).N 0),(4,.bool false),(5,pT (p1 2).N 0),(6,.bool false),(7,.int .i64 0),(8,.int .i64 0),(9,pT (p4 0).N 0),(10,pT (p5 12).N 0),(34,.bool true)]) (fun p6=>?_) (fun p6 W6 T hF hK=>?_)
 ·refine okl ?_
  refine okc (fun W cx=>as_v (snought (p5 4).A' _ (p5 4).C' _ _ ((Num.zdec (Mine.num cx.G.2.1)).trans (decide_eq_true hr)))) ?_
  exact ok_nil
 obtain ⟨hS,hG⟩:=SymF.fg hS hF
 clear hF
 refine wp_cond_true (hK.ew 34) ?_
 refine wq hS hG hK (fun p7=>[.v 35 (pT (p1 0).N 0),.l 36 (.bool s) 0 0,.l 37 (.agg #[.slice (p5 4).A (p5 4).N (p5 4).C]) 1 0,.v 38 (pT (p4 0).N 0),.l 39 (.int .i64 0) 2 0,.v 4 (.bool s),.p 1 0 [.slice (p5 4).A (p5 4).N (p5 4).C],.v 6 (.bool true),.v 7 (.int .i64 0)]) (fun p7=>[(1,.int .u8 (md:Int)),(2,pT (p1 0).N 0),(4,.bool s),(5,pT (p1 2).N 0),(6,.bool true),(7,.int .i64 0),(8,.int .i64 0),(9,pT (p4 0).N 0),(10,pT (p5 12).N 0)]) (fun p7=>?_) (fun p7 W7 T hF hK=>?_)
 ·refine okv ?_
  iterate 2 refine okl ?_
  refine okv ?_
  refine okl ?_
  refine okv ?_
  refine okp ?_
  iterate 2 refine okv ?_
  exact ok_nil
 obtain ⟨hS,hG⟩:=SymF.fg hS hF
 clear hF
 refine wp_ret ?_
 refine then_r ?_
 exact sym_end hS hK (.tuple #[.bool s,.agg #[.slice (p5 4).A (p5 4).N (p5 4).C],.bool true,.int .i64 0]) [(1,0,1)] [.slice (p5 4).A (p5 4).N (p5 4).C] (by kernel_rfl) (by kernel_rfl) ⟨⟨_,_,_,rfl,Mine.mono hG.1 z4⟩,hS.fr⟩
theorem whole_rest (w:World) (s:Bool) (a1 a2:Option Addr) (n1 n2 c1 c2 p d q r md:Nat) (e:Nat) (k:Int) (o t z:Bool) (h1:Num w a1 n1 p) (h2:Num w a2 n2 d) (HC:Hid (∀ W:World,Below w.heap.size w W→Calls Tryz.prog 29 #[.agg #[.bool s,.slice a1 n1 c1,.slice a2 n2 c2],.int .u8 (md:Int)] W fun e W'=>e = .returned (.int .i64 0)∧Below W.heap.size W W')) (HD:Hid (HDiv p d q r)) (hr:r≠0) (HS:Hid (∀ (W:World) (a:Option Addr) (n c:Nat) (a':Option Addr) (n' c':Nat),Num W a n d→Num W a' n' r→Calls Tryz.prog 36 #[.agg #[.slice a n c],.agg #[.slice a' n' c']] W fun en W'=>(∃ A N C,en = .returned (.tuple #[.agg #[.slice A N C],.bool true,.int .i64 0])∧Mine W' W.heap.size A N C e)∧Below W.heap.size W W')) (HM:Hid (∀ (W:World) (a:Option Addr) (n c:Nat) (a':Option Addr) (n' c':Nat),Num W a n r→Num W a' n' e→Calls Tryz.prog 34 #[.agg #[.slice a n c],.agg #[.slice a' n' c']] W fun en W'=>en = .returned (.tuple #[.int .i64 k,.int .i64 0])∧Below W.heap.size W W')) (HB:Hid (∀ (W:World) (a:Option Addr) (n c:Nat),Num W a n q→Calls Tryz.prog 37 #[.agg #[.slice a n c],.int .i64 0] W fun en W'=>en = .returned (.tuple #[.bool o,.int .i64 0])∧Below W.heap.size W W')) (HF:Hid (∀ W:World,Below w.heap.size w W→Calls Tryz.prog 39 #[.agg #[.bool s,.bool o,.int .i64 k],.int .u8 (md:Int)] W fun e W'=>e = .returned (.bool t)∧Below W.heap.size W W')) (HA:Hid (HTwo 41 q 1 (q+1))) (hz:decide ((q+if t then 1 else 0) = 0) = z) :
  Calls Tryz.prog 13 #[.agg #[.bool s,.slice a1 n1 c1,.slice a2 n2 c2],.int .u8 (md:Int)] w fun en w'=>(∃ A N C,en = .returned (.tuple #[.bool (s && !z),.agg #[.slice A N C],.bool false,.int .i64 0])∧Mine w' w.heap.size A N C (q+if t then 1 else 0))∧Below w.heap.size w w':=by
 refine calls_sym Tryz.func13 rfl (by kernel_rfl) fun T hK=>?_
 replace hK:Kn T _ [(0,.agg #[.bool s,.slice a1 n1 c1,.slice a2 n2 c2]),(1,.int .u8 (md:Int))]:=hK
 have hS:=Fb.begin w
 have hG:GsAt [gN a1 n1 p,gN a2 n2 d] w:=⟨h1,h2,trivial⟩
 refine wq hS hG hK (fun p1=>[.n 2 #[.bool s,.slice a1 n1 c1,.slice a2 n2 c2] 28,.v 4 (.bool false),.n 5 #[.slice none 0 0] 26,.v 6 (.bool false),.v 7 (.int .i64 0)]) (fun p1=>[(1,.int .u8 (md:Int)),(2,pT (p1 0).N 0),(4,.bool false),(5,pT (p1 2).N 0),(6,.bool false),(7,.int .i64 0)]) (fun p1=>?_) (fun p1 W1 T hF hJ=>?_)
 ·refine okn ?_
  refine okv ?_
  refine okn ?_
  iterate 2 refine okv ?_
  exact ok_nil
 replace hS:=SymF.fc hS hF [1000,1002] [⟨(p1 0).N,#[.bool s,.slice a1 n1 c1,.slice a2 n2 c2],28,true⟩,⟨(p1 2).N,#[.slice none 0 0],26,true⟩]
 replace hG:=hF.gx
 clear hF hK
 have hK:=hJ
 clear hJ
 refine wp_seq ?_
 refine wq hS hG hK (fun p2=>[.l 14 (.agg #[.bool s,.slice a1 n1 c1,.slice a2 n2 c2]) 0 0,.v 15 (.int .u8 (md:Int)),.c (some 16) (cV (.int .i64 0)),.v 8 (.int .i64 0)]) (fun p2=>[(1,.int .u8 (md:Int)),(2,pT (p1 0).N 0),(4,.bool false),(5,pT (p1 2).N 0),(6,.bool false),(7,.int .i64 0),(8,.int .i64 0)]) (fun p2=>?_) (fun p2 W2 T hF hJ=>?_)
 ·refine okl ?_
  refine okv ?_
  refine okc (fun W cx=>as_v (unhide HC _ cx.fr)) ?_
  refine okv ?_
  exact ok_nil
 replace hS:=SymF.fd hS hF
 replace hG:=hF.gx
 clear hF hK
 have hK:=hJ
 clear hJ
 refine wq hS hG hK (fun p3=>[.v 17 (.int .i64 0),.v 18 (.bool false)]) (fun p3=>[(1,.int .u8 (md:Int)),(2,pT (p1 0).N 0),(4,.bool false),(5,pT (p1 2).N 0),(6,.bool false),(7,.int .i64 0),(8,.int .i64 0),(18,.bool false)]) (fun p3=>?_) (fun p3 W3 T hF hJ=>?_)
 ·iterate 2 refine okv ?_
  exact ok_nil
 replace hS:=SymF.fd hS hF
 replace hG:=hF.gx
 clear hF hK
 have hK:=hJ
 clear hJ
 refine wp_cond_false (hK.ew 18) (wp_skip (then_n ?_))
 refine wq hS hG hK (fun p4=>[.n 9 #[.int .i64 0] 72]) (fun p4=>[(1,.int .u8 (md:Int)),(2,pT (p1 0).N 0),(4,.bool false),(5,pT (p1 2).N 0),(6,.bool false),(7,.int .i64 0),(8,.int .i64 0),(9,pT (p4 0).N 0)]) (fun p4=>?_) (fun p4 W4 T hF hJ=>?_)
 ·refine okn ?_
  exact ok_nil
 replace hS:=SymF.fc hS hF [0,1,1000] [⟨(p1 0).N,#[.bool s,.slice a1 n1 c1,.slice a2 n2 c2],28,true⟩,⟨(p1 2).N,#[.slice none 0 0],26,true⟩,⟨(p4 0).N,#[.int .i64 0],72,true⟩]
 replace hG:=hF.gx
 clear hF hK
 have hK:=hJ
 clear hJ
 have z4:=hS.fr.size
 refine wq hS hG hK (fun p5=>[.v 22 (pT (p1 0).N 1),.l 23 (.agg #[.slice a1 n1 c1]) 0 1,.v 24 (pT (p1 0).N 2),.l 25 (.agg #[.slice a2 n2 c2]) 0 2,.c (some 26) (cH W4.heap.size q r fun x9 y9=>.tuple #[.agg #[x9],.agg #[y9],.int .i64 0]),.v 27 (.agg #[.slice (p5 4).A (p5 4).N (p5 4).C]),.v 28 (.agg #[.slice (p5 4).A' (p5 4).N' (p5 4).C']),.v 29 (.int .i64 0),.u 30 (.tuple #[.agg #[.slice (p5 4).A (p5 4).N (p5 4).C],.agg #[.slice (p5 4).A' (p5 4).N' (p5 4).C']]) (aH 1 2),.v 21 (.tuple #[.agg #[.slice (p5 4).A (p5 4).N (p5 4).C],.agg #[.slice (p5 4).A' (p5 4).N' (p5 4).C']]),.v 31 (.agg #[.slice (p5 4).A (p5 4).N (p5 4).C]),.v 32 (.agg #[.slice (p5 4).A' (p5 4).N' (p5 4).C']),.n 10 #[.slice none 0 0] 26,.p 1 0 [.slice (p5 4).A (p5 4).N (p5 4).C],.p 1012 0 [.slice (p5 4).A' (p5 4).N' (p5 4).C']]) (fun p5=>[(1,.int .u8 (md:Int)),(2,pT (p1 0).N 0),(4,.bool false),(5,pT (p1 2).N 0),(6,.bool false),(7,.int .i64 0),(8,.int .i64 0),(9,pT (p4 0).N 0),(10,pT (p5 12).N 0)]) (fun p5=>?_) (fun p5 W5 T hF hJ=>?_)
 ·refine okv ?_
  refine okl ?_
  refine okv ?_
  refine okl ?_
  refine okc (fun W cx=>as_h cx.hb (unhide HD _ _ _ c1 _ _ c2 (cx.G.1) (cx.G.2.1))) ?_
  iterate 3 refine okv ?_
  refine oku (fun W cx=>runNats_z (p4 0).N 0 _ _ _ _ _ _ _ ⟨_,_,cx.B 2 _ rfl (by kernel_rfl) (by kernel_rfl),rfl⟩) ?_
  iterate 3 refine okv ?_
  refine okn ?_
  iterate 2 refine okp ?_
  exact ok_nil
 replace hS:=SymF.fc hS hF [0,1,2,1012] [⟨(p1 0).N,#[.bool s,.slice a1 n1 c1,.slice a2 n2 c2],28,true⟩,⟨(p1 2).N,#[.slice (p5 4).A (p5 4).N (p5 4).C],26,true⟩,⟨(p4 0).N,#[.int .i64 0],72,true⟩,⟨(p5 12).N,#[.slice (p5 4).A' (p5 4).N' (p5 4).C'],26,true⟩]
 replace hG:GsAt (gM W4.heap.size (p5 4).A (p5 4).N (p5 4).C q :: gM W4.heap.size (p5 4).A' (p5 4).N' (p5 4).C' r :: _) W5:=⟨And.left (hF.fx 4),And.right (hF.fx 4),hF.gx⟩
 clear hF hK
 have hK:=hJ
 clear hJ
 refine wp_seq ?_
 refine wq hS hG hK (fun p6=>[.l 33 (.agg #[.slice (p5 4).A' (p5 4).N' (p5 4).C']) 3 0,.c (some 34) (cV (.bool false))]) (fun p6=>[(1,.int .u8 (md:Int)),(2,pT (p1 0).N 0),(4,.bool false),(5,pT (p1 2).N 0),(6,.bool false),(7,.int .i64 0),(8,.int .i64 0),(9,pT (p4 0).N 0),(10,pT (p5 12).N 0),(34,.bool false)]) (fun p6=>?_) (fun p6 W6 T hF hJ=>?_)
 ·refine okl ?_
  refine okc (fun W cx=>as_v (snought (p5 4).A' _ (p5 4).C' _ _ ((Num.zdec (Mine.num cx.G.2.1)).trans (decide_eq_false hr)))) ?_
  exact ok_nil
 replace hS:=SymF.fd hS hF
 replace hG:=hF.gx
 clear hF hK
 have hK:=hJ
 clear hJ
 refine wp_cond_false (hK.ew 34) (wp_skip (then_n ?_))
 refine wq hS hG hK (fun p7=>[.l 40 (.agg #[.slice (p5 4).A' (p5 4).N' (p5 4).C']) 3 0,.v 41 (pT (p1 0).N 2),.l 42 (.agg #[.slice a2 n2 c2]) 0 2,.l 43 (.agg #[.slice (p5 4).A' (p5 4).N' (p5 4).C']) 3 0,.c (some 44) (cG W6.heap.size e fun x9=>.tuple #[.agg #[x9],.bool true,.int .i64 0]),.v 45 (.agg #[.slice (p7 4).A (p7 4).N (p7 4).C]),.v 46 (.bool true),.v 47 (.int .i64 0),.u 48 (.agg #[.slice (p7 4).A (p7 4).N (p7 4).C]) (aG 1),.c (some 49) (cV (.tuple #[.int .i64 k,.int .i64 0])),.v 50 (.int .i64 k),.v 51 (.int .i64 0),.u 52 (.int .i64 k) (aG 1),.v 11 (.int .i64 k)]) (fun p7=>[(1,.int .u8 (md:Int)),(2,pT (p1 0).N 0),(4,.bool false),(5,pT (p1 2).N 0),(6,.bool false),(7,.int .i64 0),(8,.int .i64 0),(9,pT (p4 0).N 0),(11,.int .i64 k)]) (fun p7=>?_) (fun p7 W7 T hF hJ=>?_)
 ·refine okl ?_
  refine okv ?_
  iterate 2 refine okl ?_
  refine okc (fun W cx=>as_g cx.hb (unhide HS _ _ _ c2 _ _ (p5 4).C' (cx.G.2.2.2.1) (Mine.num cx.G.2.1))) ?_
  iterate 3 refine okv ?_
  refine oku (fun W cx=>runLess_z (p4 0).N 0 _ _ _ true _ ⟨_,_,cx.B 2 _ rfl (by kernel_rfl) (by kernel_rfl),rfl⟩) ?_
  refine okc (fun W cx=>as_v (unhide HM _ _ _ (p5 4).C' _ _ (p7 4).C (Mine.num cx.G.2.1) (Mine.num (cx.F 4 (by kernel_rfl))))) ?_
  iterate 2 refine okv ?_
  refine oku (fun W cx=>runInt_z (p4 0).N 0 _ _ ⟨_,_,cx.B 2 _ rfl (by kernel_rfl) (by kernel_rfl),rfl⟩) ?_
  refine okv ?_
  exact ok_nil
 replace hS:=SymF.fd hS hF
 replace hG:GsAt (gM W6.heap.size (p7 4).A (p7 4).N (p7 4).C e :: _) W7:=⟨hF.fx 4,hF.gx⟩
 clear hF hK
 have hK:=hJ
 clear hJ
 refine wq hS hG hK (fun p8=>[.l 54 (.agg #[.slice (p5 4).A (p5 4).N (p5 4).C]) 1 0,.c (some 55) (cV (.tuple #[.bool o,.int .i64 0])),.v 53 (.tuple #[.bool o,.int .i64 0]),.v 56 (.bool o),.v 57 (.int .i64 0),.v 12 (.bool o),.v 7 (.int .i64 0)]) (fun p8=>[(1,.int .u8 (md:Int)),(2,pT (p1 0).N 0),(4,.bool false),(5,pT (p1 2).N 0),(6,.bool false),(7,.int .i64 0),(8,.int .i64 0),(9,pT (p4 0).N 0),(11,.int .i64 k),(12,.bool o)]) (fun p8=>?_) (fun p8 W8 T hF hJ=>?_)
 ·refine okl ?_
  refine okc (fun W cx=>as_v (unhide HB _ _ _ (p5 4).C (Mine.num cx.G.2.1))) ?_
  iterate 5 refine okv ?_
  exact ok_nil
 replace hS:=SymF.fd hS hF
 replace hG:=hF.gx
 clear hF hK
 have hK:=hJ
 clear hJ
 refine wq hS hG hK (fun p9=>[.v 58 (.int .i64 0),.c (some 59) (cV (.tuple #[]))]) (fun p9=>[(1,.int .u8 (md:Int)),(2,pT (p1 0).N 0),(4,.bool false),(5,pT (p1 2).N 0),(6,.bool false),(7,.int .i64 0),(8,.int .i64 0),(9,pT (p4 0).N 0),(11,.int .i64 k),(12,.bool o)]) (fun p9=>?_) (fun p9 W9 T hF hJ=>?_)
 ·refine okv ?_
  refine okc (fun W cx=>as_v (keep_z (p4 0).N 0 _ ⟨_,_,cx.B 2 _ rfl (by kernel_rfl) (by kernel_rfl),rfl⟩)) ?_
  exact ok_nil
 replace hS:=SymF.fd hS hF
 replace hG:=hF.gx
 clear hF hK
 have hK:=hJ
 clear hJ
 refine wq hS hG hK (fun p10=>[.v 60 (pT (p1 0).N 0),.l 61 (.bool s) 0 0,.v 62 (.bool o),.v 63 (.int .i64 k),.v 64 (.agg #[.bool s,.bool o,.int .i64 k]),.n 13 #[.bool false,.bool false,.int .i64 0] 87,.p 1005 0 [.bool s,.bool o,.int .i64 k]]) (fun p10=>[(1,.int .u8 (md:Int)),(2,pT (p1 0).N 0),(4,.bool false),(5,pT (p1 2).N 0),(6,.bool false),(7,.int .i64 0),(8,.int .i64 0),(9,pT (p4 0).N 0),(13,pT (p10 5).N 0)]) (fun p10=>?_) (fun p10 W10 T hF hJ=>?_)
 ·refine okv ?_
  refine okl ?_
  iterate 3 refine okv ?_
  refine okn ?_
  refine okp ?_
  exact ok_nil
 replace hS:=SymF.fc hS hF [0,1,2,1005] [⟨(p1 0).N,#[.bool s,.slice a1 n1 c1,.slice a2 n2 c2],28,true⟩,⟨(p1 2).N,#[.slice (p5 4).A (p5 4).N (p5 4).C],26,true⟩,⟨(p4 0).N,#[.int .i64 0],72,true⟩,⟨(p10 5).N,#[.bool s,.bool o,.int .i64 k],87,true⟩]
 replace hG:=hF.gx
 clear hF hK
 have hK:=hJ
 clear hJ
 refine wp_seq ?_
 refine wq hS hG hK (fun p11=>[.l 65 (.agg #[.bool s,.bool o,.int .i64 k]) 3 0,.v 66 (.int .u8 (md:Int)),.c (some 67) (cV (.bool t))]) (fun p11=>[(2,pT (p1 0).N 0),(4,.bool false),(5,pT (p1 2).N 0),(6,.bool false),(7,.int .i64 0),(8,.int .i64 0),(9,pT (p4 0).N 0),(67,.bool t)]) (fun p11=>?_) (fun p11 W11 T hF hJ=>?_)
 ·refine okl ?_
  refine okv ?_
  refine okc (fun W cx=>as_v (unhide HF _ cx.fr)) ?_
  exact ok_nil
 replace hS:=SymF.fd hS hF
 replace hG:=hF.gx
 clear hF hK
 have hK:=hJ
 clear hJ
 have z11:=hS.fr.size
 cases t
 ·refine wp_cond_false (hK.ew 67) (wp_skip (then_n ?_))
  cases s
  ·refine wq hS hG hK (fun p12=>[.v 74 (pT (p1 0).N 0),.l 75 (.bool false) 0 0,.v 76 (.bool false),.k (some 77),.k (some 78),.k (some 79),.v 80 (.bool false),.l 81 (.agg #[.slice (p5 4).A (p5 4).N (p5 4).C]) 1 0,.v 82 (pT (p4 0).N 0),.l 83 (.int .i64 0) 2 0,.v 4 (.bool false),.p 1 0 [.slice (p5 4).A (p5 4).N (p5 4).C],.v 6 (.bool false),.v 7 (.int .i64 0)]) (fun p12=>[(2,pT (p1 0).N 0),(4,.bool false),(5,pT (p1 2).N 0),(6,.bool false),(7,.int .i64 0),(8,.int .i64 0),(9,pT (p4 0).N 0)]) (fun p12=>?_) (fun p12 W12 T hF hJ=>?_)
   ·refine okv ?_
    refine okl ?_
    refine okv ?_
    iterate 3 refine okk ?_
    refine okv ?_
    refine okl ?_
    refine okv ?_
    refine okl ?_
    refine okv ?_
    refine okp ?_
    iterate 2 refine okv ?_
    exact ok_nil
   replace hS:=SymF.fc hS hF [0,1,2] [⟨(p1 0).N,#[.bool false,.slice a1 n1 c1,.slice a2 n2 c2],28,true⟩,⟨(p1 2).N,#[.slice (p5 4).A (p5 4).N (p5 4).C],26,true⟩,⟨(p4 0).N,#[.int .i64 0],72,true⟩]
   replace hG:=hF.gx
   clear hF hK
   have hK:=hJ
   clear hJ
   have z12:=hS.fr.size
   refine wp_ret ?_
   exact sym_end hS hK (.tuple #[.bool false,.agg #[.slice (p5 4).A (p5 4).N (p5 4).C],.bool false,.int .i64 0]) [(1,0,1)] [.slice (p5 4).A (p5 4).N (p5 4).C] (by kernel_rfl) (by kernel_rfl) ⟨⟨_,_,_,rfl,Mine.mono hG.2.1 z4⟩,hS.fr⟩
  ·refine wq hS hG hK (fun p12=>[.v 74 (pT (p1 0).N 0),.l 75 (.bool true) 0 0,.v 76 (.bool true),.l 77 (.agg #[.slice (p5 4).A (p5 4).N (p5 4).C]) 1 0,.c (some 78) (cV (.bool z)),.v 79 (.bool (!z)),.v 80 (.bool (!z)),.l 81 (.agg #[.slice (p5 4).A (p5 4).N (p5 4).C]) 1 0,.v 82 (pT (p4 0).N 0),.l 83 (.int .i64 0) 2 0,.v 4 (.bool (!z)),.p 1 0 [.slice (p5 4).A (p5 4).N (p5 4).C],.v 6 (.bool false),.v 7 (.int .i64 0)]) (fun p12=>[(2,pT (p1 0).N 0),(4,.bool (!z)),(5,pT (p1 2).N 0),(6,.bool false),(7,.int .i64 0),(8,.int .i64 0),(9,pT (p4 0).N 0)]) (fun p12=>?_) (fun p12 W12 T hF hJ=>?_)
   ·refine okv ?_
    refine okl ?_
    refine okv ?_
    refine okl ?_
    refine okc (fun W cx=>as_v (snought (p5 4).A _ (p5 4).C _ _ ((Num.zdec (Mine.num cx.G.2.1)).trans hz))) ?_
    iterate 2 refine okv ?_
    refine okl ?_
    refine okv ?_
    refine okl ?_
    refine okv ?_
    refine okp ?_
    iterate 2 refine okv ?_
    exact ok_nil
   replace hS:=SymF.fc hS hF [0,1,2] [⟨(p1 0).N,#[.bool true,.slice a1 n1 c1,.slice a2 n2 c2],28,true⟩,⟨(p1 2).N,#[.slice (p5 4).A (p5 4).N (p5 4).C],26,true⟩,⟨(p4 0).N,#[.int .i64 0],72,true⟩]
   replace hG:=hF.gx
   clear hF hK
   have hK:=hJ
   clear hJ
   have z12:=hS.fr.size
   refine wp_ret ?_
   exact sym_end hS hK (.tuple #[.bool (!z),.agg #[.slice (p5 4).A (p5 4).N (p5 4).C],.bool false,.int .i64 0]) [(1,0,1)] [.slice (p5 4).A (p5 4).N (p5 4).C] (by kernel_rfl) (by kernel_rfl) ⟨⟨_,_,_,rfl,Mine.mono hG.2.1 z4⟩,hS.fr⟩
 ·refine wp_cond_true (hK.ew 67) ?_
  refine wg hS hG hK (fun p12=>[.l 68 (.agg #[.slice (p5 4).A (p5 4).N (p5 4).C]) 1 0,.c (some 69) (cN W11.heap.size 1),.c (some 70) (cO W11.heap.size (q+1)),.v 71 (.agg #[.slice (p12 2).A (p12 2).N (p12 2).C]),.v 72 (.int .i64 0),.u 73 (.agg #[.slice (p12 2).A (p12 2).N (p12 2).C]) (aG 1),.p 1 0 [.slice (p12 2).A (p12 2).N (p12 2).C]]) (fun p12=>[(2,pT (p1 0).N 0),(4,.bool false),(5,pT (p1 2).N 0),(6,.bool false),(7,.int .i64 0),(8,.int .i64 0),(9,pT (p4 0).N 0)]) (fun p12=>?_) (fun p12 W12 T hF hJ=>?_)
  ·refine okl ?_
   refine okc (fun W cx=>as_n cx.hb (of_any 1 _ (by decide))) ?_
   refine okc (fun W cx=>as_o cx.hb (unhide HA _ _ _ (p5 4).C _ _ (p12 1).C (Mine.num cx.G.2.1) (Mine.num (cx.F 1 (by kernel_rfl))))) ?_
   iterate 2 refine okv ?_
   refine oku (fun W cx=>runNat_z (p4 0).N 0 _ _ _ _ ⟨_,_,cx.B 2 _ rfl (by kernel_rfl) (by kernel_rfl),rfl⟩) ?_
   refine okp ?_
   exact ok_nil
  replace hS:=SymF.fc hS hF [0,1,2] [⟨(p1 0).N,#[.bool s,.slice a1 n1 c1,.slice a2 n2 c2],28,true⟩,⟨(p1 2).N,#[.slice (p12 2).A (p12 2).N (p12 2).C],26,true⟩,⟨(p4 0).N,#[.int .i64 0],72,true⟩]
  replace hG:GsAt (gM W11.heap.size (p12 1).A (p12 1).N (p12 1).C 1 :: gM W11.heap.size (p12 2).A (p12 2).N (p12 2).C (q+1) :: _) W12:=⟨hF.fx 1,hF.fx 2,hF.gx⟩
  clear hF hK
  have hK:=hJ
  clear hJ
  have z12:=hS.fr.size
  refine then_n ?_
  cases s
  ·refine wq hS hG hK (fun p13=>[.v 74 (pT (p1 0).N 0),.l 75 (.bool false) 0 0,.v 76 (.bool false),.k (some 77),.k (some 78),.k (some 79),.v 80 (.bool false),.l 81 (.agg #[.slice (p12 2).A (p12 2).N (p12 2).C]) 1 0,.v 82 (pT (p4 0).N 0),.l 83 (.int .i64 0) 2 0,.v 4 (.bool false),.p 1 0 [.slice (p12 2).A (p12 2).N (p12 2).C],.v 6 (.bool false),.v 7 (.int .i64 0)]) (fun p13=>[(2,pT (p1 0).N 0),(4,.bool false),(5,pT (p1 2).N 0),(6,.bool false),(7,.int .i64 0),(8,.int .i64 0),(9,pT (p4 0).N 0)]) (fun p13=>?_) (fun p13 W13 T hF hJ=>?_)
   ·refine okv ?_
    refine okl ?_
    refine okv ?_
    iterate 3 refine okk ?_
    refine okv ?_
    refine okl ?_
    refine okv ?_
    refine okl ?_
    refine okv ?_
    refine okp ?_
    iterate 2 refine okv ?_
    exact ok_nil
   replace hS:=SymF.fc hS hF [0,1,2] [⟨(p1 0).N,#[.bool false,.slice a1 n1 c1,.slice a2 n2 c2],28,true⟩,⟨(p1 2).N,#[.slice (p12 2).A (p12 2).N (p12 2).C],26,true⟩,⟨(p4 0).N,#[.int .i64 0],72,true⟩]
   replace hG:=hF.gx
   clear hF hK
   have hK:=hJ
   clear hJ
   have z13:=hS.fr.size
   refine wp_ret ?_
   exact sym_end hS hK (.tuple #[.bool false,.agg #[.slice (p12 2).A (p12 2).N (p12 2).C],.bool false,.int .i64 0]) [(1,0,1)] [.slice (p12 2).A (p12 2).N (p12 2).C] (by kernel_rfl) (by kernel_rfl) ⟨⟨_,_,_,rfl,Mine.mono hG.2.1 z11⟩,hS.fr⟩
  ·refine wq hS hG hK (fun p13=>[.v 74 (pT (p1 0).N 0),.l 75 (.bool true) 0 0,.v 76 (.bool true),.l 77 (.agg #[.slice (p12 2).A (p12 2).N (p12 2).C]) 1 0,.c (some 78) (cV (.bool z)),.v 79 (.bool (!z)),.v 80 (.bool (!z)),.l 81 (.agg #[.slice (p12 2).A (p12 2).N (p12 2).C]) 1 0,.v 82 (pT (p4 0).N 0),.l 83 (.int .i64 0) 2 0,.v 4 (.bool (!z)),.p 1 0 [.slice (p12 2).A (p12 2).N (p12 2).C],.v 6 (.bool false),.v 7 (.int .i64 0)]) (fun p13=>[(2,pT (p1 0).N 0),(4,.bool (!z)),(5,pT (p1 2).N 0),(6,.bool false),(7,.int .i64 0),(8,.int .i64 0),(9,pT (p4 0).N 0)]) (fun p13=>?_) (fun p13 W13 T hF hJ=>?_)
   ·refine okv ?_
    refine okl ?_
    refine okv ?_
    refine okl ?_
    refine okc (fun W cx=>as_v (snought (p12 2).A _ (p12 2).C _ _ ((Num.zdec (Mine.num cx.G.2.1)).trans hz))) ?_
    iterate 2 refine okv ?_
    refine okl ?_
    refine okv ?_
    refine okl ?_
    refine okv ?_
    refine okp ?_
    iterate 2 refine okv ?_
    exact ok_nil
   replace hS:=SymF.fc hS hF [0,1,2] [⟨(p1 0).N,#[.bool true,.slice a1 n1 c1,.slice a2 n2 c2],28,true⟩,⟨(p1 2).N,#[.slice (p12 2).A (p12 2).N (p12 2).C],26,true⟩,⟨(p4 0).N,#[.int .i64 0],72,true⟩]
   replace hG:=hF.gx
   clear hF hK
   have hK:=hJ
   clear hJ
   have z13:=hS.fr.size
   refine wp_ret ?_
   exact sym_end hS hK (.tuple #[.bool (!z),.agg #[.slice (p12 2).A (p12 2).N (p12 2).C],.bool false,.int .i64 0]) [(1,0,1)] [.slice (p12 2).A (p12 2).N (p12 2).C] (by kernel_rfl) (by kernel_rfl) ⟨⟨_,_,_,rfl,Mine.mono hG.2.1 z11⟩,hS.fr⟩
theorem rwhole_1 (w:World)  :
  Calls Tryz.prog 16 #[.int .i64 1] w fun en w'=>(∃ A N C A' N' C',en = .returned (.agg #[.bool false,.slice A N C,.slice A' N' C'])∧Mine w' w.heap.size A N C 1∧Mine w' w.heap.size A' N' C' 1)∧Below w.heap.size w w':=by
 refine calls_sym Tryz.func16 rfl (by kernel_rfl) fun T hK=>?_
 replace hK:Kn T _ [(0,.int .i64 1)]:=hK
 have hS:=Fb.begin w
 have hG:GsAt [] w:=trivial
 refine wq hS hG hK (fun p1=>[.n 2 #[.bool false,.slice none 0 0,.slice none 0 0] 28]) (fun p1=>[(0,.int .i64 1),(2,pT (p1 0).N 0)]) (fun p1=>?_) (fun p1 W1 T hF hK=>?_)
 ·refine okn ?_
  exact ok_nil
 replace hS:=SymF.fc hS hF [1000] [⟨(p1 0).N,#[.bool false,.slice none 0 0,.slice none 0 0],28,true⟩]
 replace hG:=hF.gx
 clear hF
 refine wq hS hG hK (fun p2=>[.v 4 (.int .i64 1),.v 5 (.int .u64 1),.v 3 (.int .u64 1)]) (fun p2=>[(0,.int .i64 1),(2,pT (p1 0).N 0),(3,.int .u64 1)]) (fun p2=>?_) (fun p2 W2 T hF hK=>?_)
 ·iterate 3 refine okv ?_
  exact ok_nil
 obtain ⟨hS,hG⟩:=SymF.fg hS hF
 clear hF
 refine wp_seq ?_
 refine wq hS hG hK (fun p3=>[.v 6 (.int .i64 1),.v 7 (.bool false)]) (fun p3=>[(0,.int .i64 1),(2,pT (p1 0).N 0),(3,.int .u64 1),(7,.bool false)]) (fun p3=>?_) (fun p3 W3 T hF hK=>?_)
 ·iterate 2 refine okv ?_
  exact ok_nil
 obtain ⟨hS,hG⟩:=SymF.fg hS hF
 clear hF
 have z3:=hS.fr.size
 refine wp_cond_false (hK.ew 7) (wp_skip (then_n ?_))
 refine wq hS hG hK (fun p4=>[.v 10 (.int .i64 1),.v 11 (.bool false),.v 12 (.int .u64 1),.c (some 13) (cN W3.heap.size 1),.c (some 14) (cN W3.heap.size 1),.v 15 (.agg #[.bool false,.slice (p4 3).A (p4 3).N (p4 3).C,.slice (p4 4).A (p4 4).N (p4 4).C]),.p 0 0 [.bool false,.slice (p4 3).A (p4 3).N (p4 3).C,.slice (p4 4).A (p4 4).N (p4 4).C]]) (fun p4=>[(2,pT (p1 0).N 0),(3,.int .u64 1)]) (fun p4=>?_) (fun p4 W4 T hF hK=>?_)
 ·iterate 3 refine okv ?_
  iterate 2 refine okc (fun W cx=>as_n cx.hb (of_any 1 _ (by decide))) ?_
  refine okv ?_
  refine okp ?_
  exact ok_nil
 replace hS:=SymF.fc hS hF [0] [⟨(p1 0).N,#[.bool false,.slice (p4 3).A (p4 3).N (p4 3).C,.slice (p4 4).A (p4 4).N (p4 4).C],28,true⟩]
 replace hG:GsAt (gM W3.heap.size (p4 3).A (p4 3).N (p4 3).C 1 :: gM W3.heap.size (p4 4).A (p4 4).N (p4 4).C 1 :: _) W4:=⟨hF.fx 3,hF.fx 4,hF.gx⟩
 clear hF
 refine wp_ret ?_
 exact sym_end hS hK (.agg #[.bool false,.slice (p4 3).A (p4 3).N (p4 3).C,.slice (p4 4).A (p4 4).N (p4 4).C]) [(0,0,3)] [.bool false,.slice (p4 3).A (p4 3).N (p4 3).C,.slice (p4 4).A (p4 4).N (p4 4).C] (by kernel_rfl) (by kernel_rfl) ⟨⟨_,_,_,_,_,_,rfl,Mine.mono hG.1 z3,Mine.mono hG.2.1 z3⟩,hS.fr⟩
theorem rwhole_0 (w:World)  :
  Calls Tryz.prog 16 #[.int .i64 0] w fun en w'=>(∃ A N C A' N' C',en = .returned (.agg #[.bool false,.slice A N C,.slice A' N' C'])∧Mine w' w.heap.size A N C 0∧Mine w' w.heap.size A' N' C' 1)∧Below w.heap.size w w':=by
 refine calls_sym Tryz.func16 rfl (by kernel_rfl) fun T hK=>?_
 replace hK:Kn T _ [(0,.int .i64 0)]:=hK
 have hS:=Fb.begin w
 have hG:GsAt [] w:=trivial
 refine wq hS hG hK (fun p1=>[.n 2 #[.bool false,.slice none 0 0,.slice none 0 0] 28]) (fun p1=>[(0,.int .i64 0),(2,pT (p1 0).N 0)]) (fun p1=>?_) (fun p1 W1 T hF hK=>?_)
 ·refine okn ?_
  exact ok_nil
 replace hS:=SymF.fc hS hF [1000] [⟨(p1 0).N,#[.bool false,.slice none 0 0,.slice none 0 0],28,true⟩]
 replace hG:=hF.gx
 clear hF
 refine wq hS hG hK (fun p2=>[.v 4 (.int .i64 0),.v 5 (.int .u64 0),.v 3 (.int .u64 0)]) (fun p2=>[(0,.int .i64 0),(2,pT (p1 0).N 0),(3,.int .u64 0)]) (fun p2=>?_) (fun p2 W2 T hF hK=>?_)
 ·iterate 3 refine okv ?_
  exact ok_nil
 obtain ⟨hS,hG⟩:=SymF.fg hS hF
 clear hF
 refine wp_seq ?_
 refine wq hS hG hK (fun p3=>[.v 6 (.int .i64 0),.v 7 (.bool false)]) (fun p3=>[(0,.int .i64 0),(2,pT (p1 0).N 0),(3,.int .u64 0),(7,.bool false)]) (fun p3=>?_) (fun p3 W3 T hF hK=>?_)
 ·iterate 2 refine okv ?_
  exact ok_nil
 obtain ⟨hS,hG⟩:=SymF.fg hS hF
 clear hF
 have z3:=hS.fr.size
 refine wp_cond_false (hK.ew 7) (wp_skip (then_n ?_))
 refine wq hS hG hK (fun p4=>[.v 10 (.int .i64 0),.v 11 (.bool false),.v 12 (.int .u64 0),.c (some 13) (cN W3.heap.size 0),.c (some 14) (cN W3.heap.size 1),.v 15 (.agg #[.bool false,.slice (p4 3).A (p4 3).N (p4 3).C,.slice (p4 4).A (p4 4).N (p4 4).C]),.p 0 0 [.bool false,.slice (p4 3).A (p4 3).N (p4 3).C,.slice (p4 4).A (p4 4).N (p4 4).C]]) (fun p4=>[(2,pT (p1 0).N 0),(3,.int .u64 0)]) (fun p4=>?_) (fun p4 W4 T hF hK=>?_)
 ·iterate 3 refine okv ?_
  refine okc (fun W cx=>as_n cx.hb (of_any 0 _ (by decide))) ?_
  refine okc (fun W cx=>as_n cx.hb (of_any 1 _ (by decide))) ?_
  refine okv ?_
  refine okp ?_
  exact ok_nil
 replace hS:=SymF.fc hS hF [0] [⟨(p1 0).N,#[.bool false,.slice (p4 3).A (p4 3).N (p4 3).C,.slice (p4 4).A (p4 4).N (p4 4).C],28,true⟩]
 replace hG:GsAt (gM W3.heap.size (p4 3).A (p4 3).N (p4 3).C 0 :: gM W3.heap.size (p4 4).A (p4 4).N (p4 4).C 1 :: _) W4:=⟨hF.fx 3,hF.fx 4,hF.gx⟩
 clear hF
 refine wp_ret ?_
 exact sym_end hS hK (.agg #[.bool false,.slice (p4 3).A (p4 3).N (p4 3).C,.slice (p4 4).A (p4 4).N (p4 4).C]) [(0,0,3)] [.bool false,.slice (p4 3).A (p4 3).N (p4 3).C,.slice (p4 4).A (p4 4).N (p4 4).C] (by kernel_rfl) (by kernel_rfl) ⟨⟨_,_,_,_,_,_,rfl,Mine.mono hG.1 z3,Mine.mono hG.2.1 z3⟩,hS.fr⟩
theorem sask_f (w:World) (E F:Int) (s:Bool) (a b:Option Addr) (n c k l:Nat) (e1:Int) (he:e1≠0) (H1:Hid (∀ W:World,Below w.heap.size w W→Calls Tryz.prog 19 #[.agg #[.int .i64 E,.int .i64 F]] W fun e W'=>e = .returned (.int .i64 e1)∧Below W.heap.size W W')) :
  Calls Tryz.prog 6 #[.agg #[.int .i64 E,.int .i64 F],.agg #[.bool s,.slice a n c,.slice b k l]] w fun en w'=>en = .returned (.bool false)∧Below w.heap.size w w':=by
 refine calls_sym Tryz.func6 rfl (by kernel_rfl) fun T hK=>?_
 replace hK:Kn T _ [(0,.agg #[.int .i64 E,.int .i64 F]),(1,.agg #[.bool s,.slice a n c,.slice b k l])]:=hK
 have hS:=Fb.begin w
 have hG:GsAt [] w:=trivial
 refine wq hS hG hK (fun p1=>[.n 2 #[.int .i64 E,.int .i64 F] 23,.n 3 #[.bool s,.slice a n c,.slice b k l] 28,.v 4 (.bool false)]) (fun p1=>[(2,pT (p1 0).N 0),(3,pT (p1 1).N 0),(4,.bool false)]) (fun p1=>?_) (fun p1 W1 T hF hK=>?_)
 ·iterate 2 refine okn ?_
  refine okv ?_
  exact ok_nil
 replace hS:=SymF.fc hS hF [1000,1001] [⟨(p1 0).N,#[.int .i64 E,.int .i64 F],23,true⟩,⟨(p1 1).N,#[.bool s,.slice a n c,.slice b k l],28,true⟩]
 replace hG:=hF.gx
 clear hF
 refine wq hS hG hK (fun p2=>[.l 5 (.agg #[.int .i64 E,.int .i64 F]) 0 0,.c (some 6) (cV (.int .i64 e1)),.v 7 (.bool false),.v 8 (.bool false),.k (some 9),.k (some 10),.k (some 11),.v 12 (.bool false),.v 13 (.bool false),.k (some 14),.k (some 15),.k (some 16),.k (some 17),.k (some 18),.v 19 (.bool false),.v 20 (.bool false),.k (some 21),.k (some 22),.k (some 23),.k (some 24),.k (some 25),.v 26 (.bool false),.v 4 (.bool false)]) (fun p2=>[(4,.bool false)]) (fun p2=>?_) (fun p2 W2 T hF hK=>?_)
 ·refine okl ?_
  refine okc (fun W cx=>as_v (unhide H1 _ cx.fr)) ?_
  refine okvb (beq_false_of_ne he) ?_
  refine okv ?_
  iterate 3 refine okk ?_
  iterate 2 refine okv ?_
  iterate 5 refine okk ?_
  iterate 2 refine okv ?_
  iterate 5 refine okk ?_
  iterate 2 refine okv ?_
  exact ok_nil
 replace hS:=SymF.fc hS hF [] []
 replace hG:=hF.gx
 clear hF
 refine wp_ret ?_
 exact sym_end hS hK (.bool false) [] [] (by kernel_rfl) (by kernel_rfl) ⟨rfl,hS.fr⟩
theorem sask_r (w:World) (E F:Int) (s:Bool) (a b:Option Addr) (n c k l:Nat) (e2:Int) (he:e2≠0) (H1:Hid (∀ W:World,Below w.heap.size w W→Calls Tryz.prog 19 #[.agg #[.int .i64 E,.int .i64 F]] W fun e W'=>e = .returned (.int .i64 0)∧Below W.heap.size W W')) (H2:Hid (∀ W:World,Below w.heap.size w W→Calls Tryz.prog 20 #[.agg #[.bool s,.slice a n c,.slice b k l]] W fun e W'=>e = .returned (.int .i64 e2)∧Below W.heap.size W W')) :
  Calls Tryz.prog 6 #[.agg #[.int .i64 E,.int .i64 F],.agg #[.bool s,.slice a n c,.slice b k l]] w fun en w'=>en = .returned (.bool false)∧Below w.heap.size w w':=by
 refine calls_sym Tryz.func6 rfl (by kernel_rfl) fun T hK=>?_
 replace hK:Kn T _ [(0,.agg #[.int .i64 E,.int .i64 F]),(1,.agg #[.bool s,.slice a n c,.slice b k l])]:=hK
 have hS:=Fb.begin w
 have hG:GsAt [] w:=trivial
 refine wq hS hG hK (fun p1=>[.n 2 #[.int .i64 E,.int .i64 F] 23,.n 3 #[.bool s,.slice a n c,.slice b k l] 28,.v 4 (.bool false)]) (fun p1=>[(2,pT (p1 0).N 0),(3,pT (p1 1).N 0),(4,.bool false)]) (fun p1=>?_) (fun p1 W1 T hF hK=>?_)
 ·iterate 2 refine okn ?_
  refine okv ?_
  exact ok_nil
 replace hS:=SymF.fc hS hF [1000,1001] [⟨(p1 0).N,#[.int .i64 E,.int .i64 F],23,true⟩,⟨(p1 1).N,#[.bool s,.slice a n c,.slice b k l],28,true⟩]
 replace hG:=hF.gx
 clear hF
 refine wq hS hG hK (fun p2=>[.l 5 (.agg #[.int .i64 E,.int .i64 F]) 0 0,.c (some 6) (cV (.int .i64 0)),.v 7 (.bool true),.v 8 (.bool true),.l 9 (.agg #[.bool s,.slice a n c,.slice b k l]) 1 0,.c (some 10) (cV (.int .i64 e2)),.v 11 (.bool false),.v 12 (.bool false),.v 13 (.bool false),.k (some 14),.k (some 15),.k (some 16),.k (some 17),.k (some 18),.v 19 (.bool false),.v 20 (.bool false),.k (some 21),.k (some 22),.k (some 23),.k (some 24),.k (some 25),.v 26 (.bool false),.v 4 (.bool false)]) (fun p2=>[(4,.bool false)]) (fun p2=>?_) (fun p2 W2 T hF hK=>?_)
 ·refine okl ?_
  refine okc (fun W cx=>as_v (unhide H1 _ cx.fr)) ?_
  iterate 2 refine okv ?_
  refine okl ?_
  refine okc (fun W cx=>as_v (unhide H2 _ cx.fr)) ?_
  refine okvb (beq_false_of_ne he) ?_
  iterate 2 refine okv ?_
  iterate 5 refine okk ?_
  iterate 2 refine okv ?_
  iterate 5 refine okk ?_
  iterate 2 refine okv ?_
  exact ok_nil
 replace hS:=SymF.fc hS hF [] []
 replace hG:=hF.gx
 clear hF
 refine wp_ret ?_
 exact sym_end hS hK (.bool false) [] [] (by kernel_rfl) (by kernel_rfl) ⟨rfl,hS.fr⟩
theorem sask_n (w:World) (E F:Int) (s:Bool) (a b:Option Addr) (n c k l:Nat) (hn:60 < n) (H1:Hid (∀ W:World,Below w.heap.size w W→Calls Tryz.prog 19 #[.agg #[.int .i64 E,.int .i64 F]] W fun e W'=>e = .returned (.int .i64 0)∧Below W.heap.size W W')) (H2:Hid (∀ W:World,Below w.heap.size w W→Calls Tryz.prog 20 #[.agg #[.bool s,.slice a n c,.slice b k l]] W fun e W'=>e = .returned (.int .i64 0)∧Below W.heap.size W W')) :
  Calls Tryz.prog 6 #[.agg #[.int .i64 E,.int .i64 F],.agg #[.bool s,.slice a n c,.slice b k l]] w fun en w'=>en = .returned (.bool false)∧Below w.heap.size w w':=by
 refine calls_sym Tryz.func6 rfl (by kernel_rfl) fun T hK=>?_
 replace hK:Kn T _ [(0,.agg #[.int .i64 E,.int .i64 F]),(1,.agg #[.bool s,.slice a n c,.slice b k l])]:=hK
 have hS:=Fb.begin w
 have hG:GsAt [] w:=trivial
 refine wq hS hG hK (fun p1=>[.n 2 #[.int .i64 E,.int .i64 F] 23,.n 3 #[.bool s,.slice a n c,.slice b k l] 28,.v 4 (.bool false)]) (fun p1=>[(2,pT (p1 0).N 0),(3,pT (p1 1).N 0),(4,.bool false)]) (fun p1=>?_) (fun p1 W1 T hF hK=>?_)
 ·iterate 2 refine okn ?_
  refine okv ?_
  exact ok_nil
 replace hS:=SymF.fc hS hF [1000,1001] [⟨(p1 0).N,#[.int .i64 E,.int .i64 F],23,true⟩,⟨(p1 1).N,#[.bool s,.slice a n c,.slice b k l],28,true⟩]
 replace hG:=hF.gx
 clear hF
 refine wq hS hG hK (fun p2=>[.l 5 (.agg #[.int .i64 E,.int .i64 F]) 0 0,.c (some 6) (cV (.int .i64 0)),.v 7 (.bool true),.v 8 (.bool true),.l 9 (.agg #[.bool s,.slice a n c,.slice b k l]) 1 0,.c (some 10) (cV (.int .i64 0)),.v 11 (.bool true),.v 12 (.bool true),.v 13 (.bool true),.v 14 (pT (p1 1).N 1),.v 15 (pT (p1 1).N 1),.l 16 (.slice a n c) 1 1,.v 17 (.int .i64 (n:Int)),.v 18 (.bool false),.v 19 (.bool false),.v 20 (.bool false),.k (some 21),.k (some 22),.k (some 23),.k (some 24),.k (some 25),.v 26 (.bool false),.v 4 (.bool false)]) (fun p2=>[(4,.bool false)]) (fun p2=>?_) (fun p2 W2 T hF hK=>?_)
 ·refine okl ?_
  refine okc (fun W cx=>as_v (unhide H1 _ cx.fr)) ?_
  iterate 2 refine okv ?_
  refine okl ?_
  refine okc (fun W cx=>as_v (unhide H2 _ cx.fr)) ?_
  iterate 5 refine okv ?_
  refine okl ?_
  refine okv ?_
  refine okvb (decide_eq_false (show ¬ (n:Int)≤60 by omega)) ?_
  iterate 2 refine okv ?_
  iterate 5 refine okk ?_
  iterate 2 refine okv ?_
  exact ok_nil
 replace hS:=SymF.fc hS hF [] []
 replace hG:=hF.gx
 clear hF
 refine wp_ret ?_
 exact sym_end hS hK (.bool false) [] [] (by kernel_rfl) (by kernel_rfl) ⟨rfl,hS.fr⟩
theorem sask_d (w:World) (E F:Int) (s:Bool) (a b:Option Addr) (n c k l:Nat) (hn:n≤60) (hk:60 < k) (H1:Hid (∀ W:World,Below w.heap.size w W→Calls Tryz.prog 19 #[.agg #[.int .i64 E,.int .i64 F]] W fun e W'=>e = .returned (.int .i64 0)∧Below W.heap.size W W')) (H2:Hid (∀ W:World,Below w.heap.size w W→Calls Tryz.prog 20 #[.agg #[.bool s,.slice a n c,.slice b k l]] W fun e W'=>e = .returned (.int .i64 0)∧Below W.heap.size W W')) :
  Calls Tryz.prog 6 #[.agg #[.int .i64 E,.int .i64 F],.agg #[.bool s,.slice a n c,.slice b k l]] w fun en w'=>en = .returned (.bool false)∧Below w.heap.size w w':=by
 refine calls_sym Tryz.func6 rfl (by kernel_rfl) fun T hK=>?_
 replace hK:Kn T _ [(0,.agg #[.int .i64 E,.int .i64 F]),(1,.agg #[.bool s,.slice a n c,.slice b k l])]:=hK
 have hS:=Fb.begin w
 have hG:GsAt [] w:=trivial
 refine wq hS hG hK (fun p1=>[.n 2 #[.int .i64 E,.int .i64 F] 23,.n 3 #[.bool s,.slice a n c,.slice b k l] 28,.v 4 (.bool false)]) (fun p1=>[(2,pT (p1 0).N 0),(3,pT (p1 1).N 0),(4,.bool false)]) (fun p1=>?_) (fun p1 W1 T hF hK=>?_)
 ·iterate 2 refine okn ?_
  refine okv ?_
  exact ok_nil
 replace hS:=SymF.fc hS hF [1000,1001] [⟨(p1 0).N,#[.int .i64 E,.int .i64 F],23,true⟩,⟨(p1 1).N,#[.bool s,.slice a n c,.slice b k l],28,true⟩]
 replace hG:=hF.gx
 clear hF
 refine wq hS hG hK (fun p2=>[.l 5 (.agg #[.int .i64 E,.int .i64 F]) 0 0,.c (some 6) (cV (.int .i64 0)),.v 7 (.bool true),.v 8 (.bool true),.l 9 (.agg #[.bool s,.slice a n c,.slice b k l]) 1 0,.c (some 10) (cV (.int .i64 0)),.v 11 (.bool true),.v 12 (.bool true),.v 13 (.bool true),.v 14 (pT (p1 1).N 1),.v 15 (pT (p1 1).N 1),.l 16 (.slice a n c) 1 1,.v 17 (.int .i64 (n:Int)),.v 18 (.bool true),.v 19 (.bool true),.v 20 (.bool true),.v 21 (pT (p1 1).N 2),.v 22 (pT (p1 1).N 2),.l 23 (.slice b k l) 1 2,.v 24 (.int .i64 (k:Int)),.v 25 (.bool false),.v 26 (.bool false),.v 4 (.bool false)]) (fun p2=>[(4,.bool false)]) (fun p2=>?_) (fun p2 W2 T hF hK=>?_)
 ·refine okl ?_
  refine okc (fun W cx=>as_v (unhide H1 _ cx.fr)) ?_
  iterate 2 refine okv ?_
  refine okl ?_
  refine okc (fun W cx=>as_v (unhide H2 _ cx.fr)) ?_
  iterate 5 refine okv ?_
  refine okl ?_
  refine okv ?_
  refine okvb (decide_eq_true (show (n:Int)≤60 by omega)) ?_
  iterate 4 refine okv ?_
  refine okl ?_
  refine okv ?_
  refine okvb (decide_eq_false (show ¬ (k:Int)≤60 by omega)) ?_
  iterate 2 refine okv ?_
  exact ok_nil
 replace hS:=SymF.fc hS hF [] []
 replace hG:=hF.gx
 clear hF
 refine wp_ret ?_
 exact sym_end hS hK (.bool false) [] [] (by kernel_rfl) (by kernel_rfl) ⟨rfl,hS.fr⟩
theorem sask_ok (w:World) (E F:Int) (s:Bool) (a b:Option Addr) (n c k l:Nat) (hn:n≤60) (hk:k≤60) (H1:Hid (∀ W:World,Below w.heap.size w W→Calls Tryz.prog 19 #[.agg #[.int .i64 E,.int .i64 F]] W fun e W'=>e = .returned (.int .i64 0)∧Below W.heap.size W W')) (H2:Hid (∀ W:World,Below w.heap.size w W→Calls Tryz.prog 20 #[.agg #[.bool s,.slice a n c,.slice b k l]] W fun e W'=>e = .returned (.int .i64 0)∧Below W.heap.size W W')) :
  Calls Tryz.prog 6 #[.agg #[.int .i64 E,.int .i64 F],.agg #[.bool s,.slice a n c,.slice b k l]] w fun en w'=>en = .returned (.bool true)∧Below w.heap.size w w':=by
 refine calls_sym Tryz.func6 rfl (by kernel_rfl) fun T hK=>?_
 replace hK:Kn T _ [(0,.agg #[.int .i64 E,.int .i64 F]),(1,.agg #[.bool s,.slice a n c,.slice b k l])]:=hK
 have hS:=Fb.begin w
 have hG:GsAt [] w:=trivial
 refine wq hS hG hK (fun p1=>[.n 2 #[.int .i64 E,.int .i64 F] 23,.n 3 #[.bool s,.slice a n c,.slice b k l] 28,.v 4 (.bool false)]) (fun p1=>[(2,pT (p1 0).N 0),(3,pT (p1 1).N 0),(4,.bool false)]) (fun p1=>?_) (fun p1 W1 T hF hK=>?_)
 ·iterate 2 refine okn ?_
  refine okv ?_
  exact ok_nil
 replace hS:=SymF.fc hS hF [1000,1001] [⟨(p1 0).N,#[.int .i64 E,.int .i64 F],23,true⟩,⟨(p1 1).N,#[.bool s,.slice a n c,.slice b k l],28,true⟩]
 replace hG:=hF.gx
 clear hF
 refine wq hS hG hK (fun p2=>[.l 5 (.agg #[.int .i64 E,.int .i64 F]) 0 0,.c (some 6) (cV (.int .i64 0)),.v 7 (.bool true),.v 8 (.bool true),.l 9 (.agg #[.bool s,.slice a n c,.slice b k l]) 1 0,.c (some 10) (cV (.int .i64 0)),.v 11 (.bool true),.v 12 (.bool true),.v 13 (.bool true),.v 14 (pT (p1 1).N 1),.v 15 (pT (p1 1).N 1),.l 16 (.slice a n c) 1 1,.v 17 (.int .i64 (n:Int)),.v 18 (.bool true),.v 19 (.bool true),.v 20 (.bool true),.v 21 (pT (p1 1).N 2),.v 22 (pT (p1 1).N 2),.l 23 (.slice b k l) 1 2,.v 24 (.int .i64 (k:Int)),.v 25 (.bool true),.v 26 (.bool true),.v 4 (.bool true)]) (fun p2=>[(4,.bool true)]) (fun p2=>?_) (fun p2 W2 T hF hK=>?_)
 ·refine okl ?_
  refine okc (fun W cx=>as_v (unhide H1 _ cx.fr)) ?_
  iterate 2 refine okv ?_
  refine okl ?_
  refine okc (fun W cx=>as_v (unhide H2 _ cx.fr)) ?_
  iterate 5 refine okv ?_
  refine okl ?_
  refine okv ?_
  refine okvb (decide_eq_true (show (n:Int)≤60 by omega)) ?_
  iterate 4 refine okv ?_
  refine okl ?_
  refine okv ?_
  refine okvb (decide_eq_true (show (k:Int)≤60 by omega)) ?_
  iterate 2 refine okv ?_
  exact ok_nil
 replace hS:=SymF.fc hS hF [] []
 replace hG:=hF.gx
 clear hF
 refine wp_ret ?_
 exact sym_end hS hK (.bool true) [] [] (by kernel_rfl) (by kernel_rfl) ⟨rfl,hS.fr⟩
theorem num_new (w:World) (n:Nat) (h0:0 < n) (h1:n < 4294967296):Num (w.alloc (.cells #[.int .u32 (n:Int)] 49)) (some ⟨w.heap.size,0,none⟩) 1 n:=by
 refine ⟨[n],rfl,Or.inr ⟨w.heap.size,0,rfl,fun j hj=>?_⟩,fun x hx=>?_,?_,?_,by omega⟩
 ·have hj0:j = 0:=by simp at hj; omega
  subst hj0
  rw [cell_of_row _ w.heap.size 0 _ _ _ (heap_alloc_new w _)]; rfl
 ·simp at hx; omega
 ·simp [Pl.Norm]; omega
 ·simp [Pl.val]
theorem frac_is (s:Bool) (n d:Nat) (hn:0 < n) (hn2:n < 4294967296) (hd:0 < d) (hd2:d < 4294967296) (hg:Nat.gcd n d = 1) (w:World) :
  Calls Tryz.prog 17 #[.bool s,.int .u32 (n:Int),.int .u32 (d:Int)] w fun en w'=>(∃ a k c a' k' c',en = .returned (.tuple #[.agg #[.bool s,.slice a k c,.slice a' k' c'],.int .i64 0])∧Mine w' w.heap.size a k c n∧Mine w' w.heap.size a' k' c' d)∧Below w.heap.size w w':=by
 have q1:=num_new (w.alloc (.cells #[.bool false,.slice none 0 0,.slice none 0 0] 28)) n hn hn2
 have q2:=num_new ((w.alloc (.cells #[.bool false,.slice none 0 0,.slice none 0 0] 28)).alloc (.cells #[.int .u32 (n:Int)] 49)) d hd hd2
 replace q1:=q1.kept (gr_alloc _ (.cells #[.int .u32 (d:Int)] 49))
 have hS:=(Fs.one w #[.bool false,.slice none 0 0,.slice none 0 0] 28).kept (gr_alloc _ (.cells #[.int .u32 (n:Int)] 49))
 replace hS:=hS.kept (gr_alloc _ (.cells #[.int .u32 (d:Int)] 49))
 simp only [World.size_alloc] at q1 q2
 have hb0:=hS.fr
 have HS:=hide hS
 have H1:=hide q1
 have H2:=hide q2
 clear q1 q2 hS
 go_enter Tryz.func17,Tryz.ntmps17
 go_wp2_with fail
 refine (ymake_any s _ _ 1 1 1 1 n d _ (unhide H1) (unhide H2) hd).mono ?_
 rw [hg,Nat.div_one,Nat.div_one]
 rintro en w1 ⟨⟨a,k,c,a',k',c',rfl,g1,g2⟩,hb1⟩
 ·have hS:=(unhide HS).kept hb1
  have hdn:decide (n = 0) = false:=by simp; omega
  rw [hdn]
  have hz:=hb1.size
  have hz0:=hb0.size
  obtain ⟨⟨z0,z1,z2,-⟩,-⟩:=hS.cells
  have Q_:=hS.frozen (b:=w.heap.size) (cs:=#[.bool false,.slice none 0 0,.slice none 0 0]) (t:=28) (by simp)
  have f0:=Q_ 0
  have f1:=Q_ 1
  have f2:=Q_ 2
  clear Q_
  have G1:=hide g1
  have G2:=hide g2
  have HF:=hide hS
  clear g1 g2 hdn hS hb0 hb1 hz hz0 hn hn2 hd hd2
  simp only [Bool.and_true,Bool.not_false]
  go_wp2
  have hS:=unhide HF
  have e1:=hS.put (b:=w.heap.size) (cs:=#[.bool false,.slice none 0 0,.slice none 0 0]) (t:=28) (by simp) (by omega) 0 (.bool s) [⟨w.heap.size,#[.bool s,.slice none 0 0,.slice none 0 0],28⟩] (by simp)
  have e2:=e1.put (b:=w.heap.size) (cs:=#[.bool s,.slice none 0 0,.slice none 0 0]) (t:=28) (by simp) (by omega) 1 (.slice a k c) [⟨w.heap.size,#[.bool s,.slice a k c,.slice none 0 0],28⟩] (by simp)
  have e3:=e2.put (b:=w.heap.size) (cs:=#[.bool s,.slice a k c,.slice none 0 0]) (t:=28) (by simp) (by omega) 2 (.slice a' k' c') [⟨w.heap.size,#[.bool s,.slice a k c,.slice a' k' c'],28⟩] (by simp)
  have b0:=hS.bx ⟨w.heap.size,#[.bool false,.slice none 0 0,.slice none 0 0],28⟩ (by simp)
  have b1:=e1.bx ⟨w.heap.size,#[.bool s,.slice none 0 0,.slice none 0 0],28⟩ (by simp)
  have b2:=e2.bx ⟨w.heap.size,#[.bool s,.slice a k c,.slice none 0 0],28⟩ (by simp)
  obtain ⟨⟨y0,y1,y2,-⟩,-⟩:=e3.cells
  have ho:w.heap.size≤(((w.alloc (.cells #[.bool false,.slice none 0 0,.slice none 0 0] 28)).alloc (.cells #[.int .u32 (n:Int)] 49)).alloc (.cells #[.int .u32 (d:Int)] 49)).heap.size:=by simp; omega
  exact bodyPost_ret (v:=.tuple #[.agg #[.bool s,.slice a k c,.slice a' k' c'],.int .i64 0]) (by simp [results,Tryz.results17,go_sem,y0,y1,y2]) rfl ⟨⟨a,k,c,a',k',c',rfl,((((unhide G1).put b0 (by simp) 0 _).put b1 (by simp) 1 _).put b2 (by simp) 2 _).mono ho,((((unhide G2).put b0 (by simp) 0 _).put b1 (by simp) 1 _).put b2 (by simp) 2 _).mono ho⟩,e3.fr⟩
theorem rchk_ok (s:Bool) (a b:Option Addr) (n c k l m d:Nat) (h0:0 < m) (hd:0 < d) (hg:Nat.gcd m d = 1) (W:World) (h1:Num W a n m) (h2:Num W b k d) :
  Calls Tryz.prog 20 #[.agg #[.bool s,.slice a n c,.slice b k l]] W fun e W'=>e = .returned (.int .i64 0)∧Below W.heap.size W W':=by
 have hk:0 < k:=by have:=h2.zero; omega
 have hn:0 < n:=by have:=h1.zero; omega
 cases s
 ·exact rk_ok_f a n c m b k l d W hk h1 h2 hg
 ·exact rk_ok_t a n c m b k l d W hk hn h1 h2 hg
theorem rat_c (E F B S I md:Nat) (s ng:Bool) (m d z q K bt fl:Nat) (X:Int) (hfo:Fo E F) (hS:S = 2 ^ (F+E)) (hI:I = (2 ^ E - 1) * 2 ^ F) (hB:B = 2 ^ (E - 1) - 1) (hm:md≤4) (h0:0 < m) (hd:0 < d) (hg:Nat.gcd m d = 1) (bm:blen m≤64) (bd:blen d≤64) (hz:sAns m d = 2 ^ z * (2 * q+1)) (hz2:z≤300) (hX:sExp m d+(z:Int) = X) (hK:blen (2 * q+1) = K) (hbt:bitsR S I md s (rowR B F md s (2 * q+1) K X) = bt) (hfl:flagR B F I md s (2 * q+1) K X = fl)
  (a b:Option Addr) (n c k l:Nat) (w:World) (hT:Tb w) (h1:Num w a n m) (h2:Num w b k d) :
  Calls Tryz.prog 7 #[.agg #[.int .i64 (E:Int),.int .i64 (F:Int)],.agg #[.bool s,.slice a n c,.slice b k l],.bool ng,.int .u8 (md:Int)] w fun e w'=>e = .returned (.tuple #[.int .u64 (bt:Int),.int .u8 (fl:Int),.int .i64 0])∧Below w.heap.size w w':=by
 have:=sratio_is (E:=E) (F:=F) (S:=S) (I:=I) (B:=B) (md:=md) ⟨hfo,hS,hI⟩ hB hm ng s a b n c k l m d w hT h1 h2 (by omega) hd (by omega) (by omega) (by omega) (by omega) (hide fun W q1 q2=>rchk_ok s a b n c k l m d h0 hd hg W q1 q2) z (2 * q+1) K X ⟨q,hz⟩ (by omega) (by rw [hz,Nat.mul_div_cancel_left _ (Nat.pow_pos (by omega))]) hX (by rw [← hK]; exact bl_blen _)
 rw [hbt,hfl] at this
 exact this
theorem Mine.limb {w:World} {B:Nat} {a:Option Addr} {n c m:Nat} (h:Mine w B a n c m) (h0:0 < m) (h1:m < 4294967296):n = 1∧∃ b,a = some ⟨b,0,none⟩∧w.cell? ⟨b,0,none⟩ = some (.int .u32 (m:Int)):=by
 have hn:n = 1:=by
  obtain ⟨xs,hl,-,hw,hN,hv,-⟩:=h
  match xs,hl,hw,hN,hv with
  | [],hl,_,_,hv=>simp [Pl.val] at hv; omega
  | [x],hl,_,_,_=>simpa using hl.symm
  | x :: y :: r,hl,hw,hN,hv=>
   exfalso
   have h3:Pl.val (y :: r)≠0:=by
    intro h4
    have:=Pl.norm_lower (xs:=x :: y :: r) hN (by simp)
    simp only [Pl.val] at this hv h4
    have h5:(4294967296:Nat) ^ 1≤4294967296 ^ ((x :: y :: r).length - 1):=Nat.pow_le_pow_right (by omega) (by simp)
    omega
   simp only [Pl.val] at hv h3
   omega
 refine ⟨hn,?_⟩
 subst hn
 obtain ⟨xs,hl,ho,hw,hN,hv,-⟩:=h
 match xs,hl,ho,hv with
 | [x],_,ho,hv=>
  simp [Pl.val] at hv
  subst hv
  rcases ho with ⟨e,-⟩|⟨g,cap,cur,e,hg,hh,-,-,-,hc⟩
  ·cases e
  ·injection e with e1 e2 e3
   refine ⟨g,e1,?_⟩
   rw [cell_of_row w g 0 _ _ _ hh]
   have:=hc 0 (by simp)
   simpa using this
theorem salive_is (w:World) (hT:Tb w) (hN:Nb5 w) :
  Calls Tryz.prog 5 #[] w fun en w'=>en = .returned (.bool true)∧Below w.heap.size w w':=by
 refine calls_sym Tryz.func5 rfl (by kernel_rfl) fun T hK=>?_
 replace hK:Kn T _ []:=hK
 have hS:=Fb.begin w
 have hG:GsAt [] w:=trivial
 refine wq hS hG hK (fun p1=>[.v 0 (.bool false)]) (fun p1=>[(0,.bool false)]) (fun p1=>?_) (fun p1 W1 T hF hK=>?_)
 ·refine okv ?_
  exact ok_nil
 replace hS:=SymF.fc hS hF [] []
 replace hG:=hF.gx
 clear hF
 refine wq hS hG hK (fun p2=>[.c (some 15) (cH W1.heap.size 1 3 fun x9 y9=>.tuple #[.agg #[.bool true,x9,y9],.int .i64 0]),.v 14 (.tuple #[.agg #[.bool true,.slice (p2 0).A (p2 0).N (p2 0).C,.slice (p2 0).A' (p2 0).N' (p2 0).C'],.int .i64 0]),.v 16 (.agg #[.bool true,.slice (p2 0).A (p2 0).N (p2 0).C,.slice (p2 0).A' (p2 0).N' (p2 0).C']),.v 17 (.int .i64 0),.n 1 #[.bool false,.slice none 0 0,.slice none 0 0] 28,.p 1004 0 [.bool true,.slice (p2 0).A (p2 0).N (p2 0).C,.slice (p2 0).A' (p2 0).N' (p2 0).C'],.v 2 (.int .i64 0)]) (fun p2=>[(0,.bool false),(1,pT (p2 4).N 0),(2,.int .i64 0)]) (fun p2=>?_) (fun p2 W2 T hF hK=>?_)
 ·refine okc (fun W cx=>as_h cx.hb (frac_is true 1 3 (by decide) (by decide) (by decide) (by decide) (by decide) _)) ?_
  iterate 3 refine okv ?_
  refine okn ?_
  refine okp ?_
  refine okv ?_
  exact ok_nil
 replace hS:=SymF.fc hS hF [1004] [⟨(p2 4).N,#[.bool true,.slice (p2 0).A (p2 0).N (p2 0).C,.slice (p2 0).A' (p2 0).N' (p2 0).C'],28,true⟩]
 replace hG:GsAt (gM W1.heap.size (p2 0).A (p2 0).N (p2 0).C 1 :: gM W1.heap.size (p2 0).A' (p2 0).N' (p2 0).C' 3 :: _) W2:=⟨And.left (hF.fx 0),And.right (hF.fx 0),hF.gx⟩
 clear hF
 refine wq hS hG hK (fun p3=>[.c (some 19) (cH W2.heap.size 5 2 fun x9 y9=>.tuple #[.agg #[.bool false,x9,y9],.int .i64 0]),.v 18 (.tuple #[.agg #[.bool false,.slice (p3 0).A (p3 0).N (p3 0).C,.slice (p3 0).A' (p3 0).N' (p3 0).C'],.int .i64 0]),.v 20 (.agg #[.bool false,.slice (p3 0).A (p3 0).N (p3 0).C,.slice (p3 0).A' (p3 0).N' (p3 0).C']),.v 21 (.int .i64 0),.n 3 #[.bool false,.slice none 0 0,.slice none 0 0] 28,.p 1004 0 [.bool false,.slice (p3 0).A (p3 0).N (p3 0).C,.slice (p3 0).A' (p3 0).N' (p3 0).C'],.v 4 (.int .i64 0)]) (fun p3=>[(0,.bool false),(1,pT (p2 4).N 0),(2,.int .i64 0),(3,pT (p3 4).N 0),(4,.int .i64 0)]) (fun p3=>?_) (fun p3 W3 T hF hK=>?_)
 ·refine okc (fun W cx=>as_h cx.hb (frac_is false 5 2 (by decide) (by decide) (by decide) (by decide) (by decide) _)) ?_
  iterate 3 refine okv ?_
  refine okn ?_
  refine okp ?_
  refine okv ?_
  exact ok_nil
 replace hS:=SymF.fc hS hF [0,1004] [⟨(p2 4).N,#[.bool true,.slice (p2 0).A (p2 0).N (p2 0).C,.slice (p2 0).A' (p2 0).N' (p2 0).C'],28,true⟩,⟨(p3 4).N,#[.bool false,.slice (p3 0).A (p3 0).N (p3 0).C,.slice (p3 0).A' (p3 0).N' (p3 0).C'],28,true⟩]
 replace hG:GsAt (gM W2.heap.size (p3 0).A (p3 0).N (p3 0).C 5 :: gM W2.heap.size (p3 0).A' (p3 0).N' (p3 0).C' 2 :: _) W3:=⟨And.left (hF.fx 0),And.right (hF.fx 0),hF.gx⟩
 clear hF
 refine wq hS hG hK (fun p4=>[.v 23 (.agg #[.int .i64 5,.int .i64 10]),.l 24 (.agg #[.bool true,.slice (p2 0).A (p2 0).N (p2 0).C,.slice (p2 0).A' (p2 0).N' (p2 0).C']) 0 0,.c (some 25) (cV (.tuple #[.int .u64 46421,.int .u8 1,.int .i64 0])),.v 22 (.tuple #[.int .u64 46421,.int .u8 1,.int .i64 0]),.v 26 (.int .u64 46421),.v 27 (.int .u8 1),.v 28 (.int .i64 0),.v 5 (.int .u64 46421),.v 6 (.int .u8 1),.v 7 (.int .i64 0)]) (fun p4=>[(0,.bool false),(2,.int .i64 0),(3,pT (p3 4).N 0),(4,.int .i64 0),(5,.int .u64 46421),(6,.int .u8 1),(7,.int .i64 0)]) (fun p4=>?_) (fun p4 W4 T hF hK=>?_)
 ·refine okv ?_
  refine okl ?_
  refine okc (fun W cx=>as_v (rat_c 5 10 15 32768 31744 0 true false 1 3 0 24595658764946068821 66 46421 1 (-67) ⟨by decide,by decide,by decide,by decide⟩ (by decide) (by decide) (by decide) (by decide) (by decide) (by decide) (by decide) (by decide) (by decide) (by kernel_rfl) (by decide) (by kernel_rfl) (by kernel_rfl) (by kernel_rfl) (by kernel_rfl) _ _ _ (p2 0).C _ (p2 0).C' _ (hT.kept cx.fr) (Mine.num cx.G.2.2.1) (Mine.num cx.G.2.2.2.1))) ?_
  iterate 7 refine okv ?_
  exact ok_nil
 replace hS:=SymF.fc hS hF [1] [⟨(p3 4).N,#[.bool false,.slice (p3 0).A (p3 0).N (p3 0).C,.slice (p3 0).A' (p3 0).N' (p3 0).C'],28,true⟩]
 replace hG:=hF.gx
 clear hF
 refine wq hS hG hK (fun p5=>[.l 30 (.agg #[.bool false,.slice (p3 0).A (p3 0).N (p3 0).C,.slice (p3 0).A' (p3 0).N' (p3 0).C']) 0 0,.c (some 31) (cG W4.heap.size 2 fun x9=>.tuple #[.bool false,.agg #[x9],.bool false,.int .i64 0]),.v 29 (.tuple #[.bool false,.agg #[.slice (p5 1).A (p5 1).N (p5 1).C],.bool false,.int .i64 0]),.v 32 (.bool false),.v 33 (.agg #[.slice (p5 1).A (p5 1).N (p5 1).C]),.v 34 (.bool false),.v 35 (.int .i64 0),.n 9 #[.slice none 0 0] 26,.v 8 (.bool false),.p 1007 0 [.slice (p5 1).A (p5 1).N (p5 1).C],.v 10 (.bool false),.v 11 (.int .i64 0)]) (fun p5=>[(0,.bool false),(2,.int .i64 0),(4,.int .i64 0),(5,.int .u64 46421),(6,.int .u8 1),(7,.int .i64 0),(8,.bool false),(9,pT (p5 7).N 0),(10,.bool false),(11,.int .i64 0)]) (fun p5=>?_) (fun p5 W5 T hF hK=>?_)
 ·refine okl ?_
  refine okc (fun W cx=>as_g cx.hb (whole_near _ _ (p3 0).C 5 _ _ (p3 0).C' 2 0 (by decide) 1 2 false (by decide) (by decide) (by decide) (by decide) (by decide) (farther_any 0 false false 0 (by decide) (Or.inr (Or.inl rfl))) _ (Mine.num cx.G.1) (Mine.num cx.G.2.1) (by decide) (hide fun W9 hb9=>rchk_ok false _ _ _ _ _ _ 5 2 (by decide) (by decide) (by decide) W9 (Num.kept (Mine.num cx.G.1) hb9) (Num.kept (Mine.num cx.G.2.1) hb9)))) ?_
  iterate 5 refine okv ?_
  refine okn ?_
  refine okv ?_
  refine okp ?_
  iterate 2 refine okv ?_
  exact ok_nil
 replace hS:=SymF.fc hS hF [1007] [⟨(p5 7).N,#[.slice (p5 1).A (p5 1).N (p5 1).C],26,true⟩]
 replace hG:GsAt (gM W4.heap.size (p5 1).A (p5 1).N (p5 1).C 2 :: _) W5:=⟨hF.fx 1,hF.gx⟩
 clear hF
 refine wq hS hG hK (fun p6=>[.c (some 37) (cV (.tuple #[.int .u8 1,.bool true])),.v 36 (.tuple #[.int .u8 1,.bool true]),.v 38 (.int .u8 1),.v 39 (.bool true),.v 12 (.int .u8 1),.v 13 (.bool true)]) (fun p6=>[(0,.bool false),(2,.int .i64 0),(4,.int .i64 0),(5,.int .u64 46421),(6,.int .u8 1),(7,.int .i64 0),(8,.bool false),(9,pT (p5 7).N 0),(10,.bool false),(11,.int .i64 0),(12,.int .u8 1),(13,.bool true)]) (fun p6=>?_) (fun p6 W6 T hF hK=>?_)
 ·refine okc (fun W cx=>as_v (named_1 ⟨#[97,119,97,121]⟩ _ (hN.kept cx.fr) (by kernel_rfl) (by kernel_rfl))) ?_
  iterate 5 refine okv ?_
  exact ok_nil
 obtain ⟨hS,hG⟩:=SymF.fg hS hF
 clear hF
 obtain ⟨eN,b9,eA,hc9⟩:=Mine.limb hG.1 (by decide) (by decide)
 rw [eA,eN] at hS
 replace hG:GsAt (gL b9 0 2 :: _) W6:=⟨hc9,hG⟩
 refine wq hS hG hK (fun p7=>[.v 40 (.int .i64 0),.v 41 (.bool true),.v 42 (.bool true),.v 43 (.int .i64 0),.v 44 (.bool true),.v 45 (.bool true),.v 46 (.bool true),.v 47 (.int .i64 0),.v 48 (.bool true),.v 49 (.bool true),.v 50 (.bool true),.v 51 (.int .i64 0),.v 52 (.bool true),.v 53 (.bool true),.v 54 (.bool true),.v 55 (.int .u64 46421),.v 56 (.bool true),.v 57 (.bool true),.v 58 (.bool true),.v 59 (.int .u8 1),.v 60 (.bool true),.v 61 (.bool true),.v 62 (.bool true),.v 63 (.bool false),.v 64 (.bool true),.v 65 (.bool true),.v 66 (.bool true),.v 67 (.bool false),.v 68 (.bool true),.v 69 (.bool true),.v 70 (.bool true),.v 71 (pT (p5 7).N 0),.l 72 (.slice (some ⟨b9,0,none⟩) 1 (p5 1).C) 0 0,.v 73 (.int .i64 1),.v 74 (.bool true),.v 75 (.bool true),.v 76 (.bool true),.v 77 (pT (p5 7).N 0),.l 78 (.slice (some ⟨b9,0,none⟩) 1 (p5 1).C) 0 0,.v 79 (.pointer (some ⟨b9,0,none⟩)),.g 80 (.int .u32 2) [.int .u32 2] [.ld ⟨b9,0,none⟩ (.int .u32 2)],.v 81 (.bool true),.v 82 (.bool true),.v 83 (.bool true),.v 84 (.int .u8 1),.v 85 (.bool true),.v 86 (.bool true),.v 87 (.bool true),.v 88 (.bool true),.v 89 (.bool true),.v 0 (.bool true)]) (fun p7=>[(0,.bool true)]) (fun p7=>?_) (fun p7 W7 T hF hK=>?_)
 ·iterate 32 refine okv ?_
  refine okl ?_
  iterate 5 refine okv ?_
  refine okl ?_
  refine okv ?_
  refine ok_g (fun W cx=>⟨⟨cx.G.1,trivial⟩,rfl⟩) (by kernel_rfl) ?_
  iterate 10 refine okv ?_
  exact ok_nil
 replace hS:=SymF.fc hS hF [] []
 replace hG:=hF.gx
 clear hF
 refine wp_ret ?_
 exact sym_end hS hK (.bool true) [] [] (by kernel_rfl) (by kernel_rfl) ⟨rfl,hS.fr⟩
theorem num_len {w:World} {a:Option Addr} {n m:Nat} (h:Num w a n m) (hn:n≤60):blen m≤1920:=by
 obtain ⟨xs,hx,_,hw,_,hv,_⟩:=h
 have h1:=Pl.val_lt hw
 rw [hv,hx] at h1
 obtain ⟨K,hK⟩:∃ K,K = 1920:=⟨_,rfl⟩
 rw [← hK]
 refine (bl_blen m).le_of ?_
 rw [show (4294967296:Nat) = 2 ^ 32 from rfl,← Nat.pow_mul] at h1
 exact Nat.lt_of_lt_of_le h1 (Nat.pow_le_pow_right (by decide) (by omega))
theorem rk_any (s:Bool) (a b:Option Addr) (n c k l:Nat) (xs ys:List Nat) (w:World) (hn:xs.length = n) (hnb:n≤9223372036854775807) (hl:Lim w a xs) (hw:Pl.Wf xs) (hk:ys.length = k) (hkb:k≤9223372036854775807) (hly:Lim w b ys) (hwy:Pl.Wf ys) :
  (∀ W:World,Below w.heap.size w W→Calls Tryz.prog 20 #[.agg #[.bool s,.slice a n c,.slice b k l]] W fun e W'=>e = .returned (.int .i64 20)∧Below W.heap.size W W') ∨
  ∃ p d:Nat,Num w a n p∧Num w b k d∧0 < d∧Nat.gcd p d = 1∧(s = true→0 < p)∧∀ W:World,Num W a n p→Num W b k d→Calls Tryz.prog 20 #[.agg #[.bool s,.slice a n c,.slice b k l]] W fun e W'=>e = .returned (.int .i64 0)∧Below W.heap.size W W':=by
 rcases Nat.eq_zero_or_pos k with z'|z'
 ·subst z'
  exact Or.inl fun W _=>rk_den s a n c b l W
 by_cases hneg:s = true∧n = 0
 ·obtain ⟨rfl,rfl⟩:=hneg
  exact Or.inl fun W _=>rk_neg a c b k l z' W
 have hs:s = true→0 < n:=fun e=>Nat.pos_of_ne_zero fun e2=>hneg ⟨e,e2⟩
 by_cases hc:chk2 xs ys = 0
 case neg=>
  refine Or.inl fun W hW=>?_
  have hG:∀ W':World,Below W.heap.size W W'→Calls Tryz.prog 50 #[.agg #[.slice a n c],.agg #[.slice b k l]] W' fun e w'=>e = .returned (.tuple #[.agg #[.slice none 0 0],.int .i64 (chk2 xs ys)])∧Below W'.heap.size W' w':=fun W' hW'=>gcd_bad a n c xs b k l ys W' hn hk hnb hkb (hl.below (gr_trans hW hW')) (hly.below (gr_trans hW hW')) hc
  cases s
  ·exact rk_err_f a n c b k l _ W z' (by simpa using hc) (hide hG)
  ·exact rk_err_t a n c b k l _ W z' (hs rfl) (by simpa using hc) (hide hG)
 have c1:chk xs = 0:=by
  unfold chk2 at hc
  by_cases h:chk xs = 0
  ·exact h
  ·rw [if_neg h] at hc; exact absurd hc h
 have c2:chk ys = 0:=by unfold chk2 at hc; rw [if_pos c1] at hc; exact hc
 have gN:=dck_num hn hl hw c1
 have gD:=dck_num hk hly hwy c2
 generalize Pl.val xs = p at *
 generalize Pl.val ys = d at *
 have hD0:0 < d:=by have:=gD.zero; omega
 by_cases hg:Nat.gcd p d = 1
 case neg=>
  refine Or.inl fun W hW=>?_
  cases s
  ·exact rk_big_f a n c p b k l d W z' (gN.kept hW) (gD.kept hW) hg
  ·exact rk_big_t a n c p b k l d W z' (hs rfl) (gN.kept hW) (gD.kept hW) hg
 refine Or.inr ⟨p,d,gN,gD,hD0,hg,fun e=>?_,fun W q1 q2=>?_⟩
 ·have:=hs e; have:=gN.zero; omega
 ·cases s
  ·exact rk_ok_f a n c p b k l d W z' q1 q2 hg
  ·exact rk_ok_t a n c p b k l d W z' (hs rfl) q1 q2 hg
theorem asked_any (E F:Int) (s:Bool) (a b:Option Addr) (n c k l:Nat) (xs ys:List Nat) (w:World) (hn:xs.length = n) (hnb:n≤9223372036854775807) (hl:Lim w a xs) (hw:Pl.Wf xs) (hk:ys.length = k) (hkb:k≤9223372036854775807) (hly:Lim w b ys) (hwy:Pl.Wf ys) :
  (∀ W:World,Below w.heap.size w W→Calls Tryz.prog 6 #[.agg #[.int .i64 E,.int .i64 F],.agg #[.bool s,.slice a n c,.slice b k l]] W fun e W'=>e = .returned (.bool false)∧Below W.heap.size W W') ∨
  ((∃ e f:Nat,E = (e:Int)∧F = (f:Int)∧Fo e f)∧∃ p d:Nat,Num w a n p∧Num w b k d∧0 < d∧Nat.gcd p d = 1∧(s = true→0 < p)∧blen p≤1920∧blen d≤1920∧(∀ W:World,Num W a n p→Num W b k d→Calls Tryz.prog 20 #[.agg #[.bool s,.slice a n c,.slice b k l]] W fun e W'=>e = .returned (.int .i64 0)∧Below W.heap.size W W') ∧
   ∀ W:World,Below w.heap.size w W→Calls Tryz.prog 6 #[.agg #[.int .i64 E,.int .i64 F],.agg #[.bool s,.slice a n c,.slice b k l]] W fun e W'=>e = .returned (.bool true)∧Below W.heap.size W W'):=by
 by_cases hf:E < 2∨11 < E∨F < 1∨52 < F
 ·exact Or.inl fun W _=>sask_f W E F s a b n c k l 5 (by decide) (hide fun W' _=>check_bad E F W' hf)
 obtain ⟨e,rfl⟩:∃ e:Nat,E = (e:Int):=⟨E.toNat,by omega⟩
 obtain ⟨f,rfl⟩:∃ f:Nat,F = (f:Int):=⟨F.toNat,by omega⟩
 have hfo:Fo e f:=⟨by omega,by omega,by omega,by omega⟩
 rcases rk_any s a b n c k l xs ys w hn hnb hl hw hk hkb hly hwy with h|⟨p,d,gN,gD,hD0,hg,hs,hC⟩
 ·exact Or.inl fun W hW=>sask_r W e f s a b n c k l 20 (by decide) (hide fun W' _=>check_ok e f W' hfo) (hide fun W' hW'=>h W' (gr_trans hW hW'))
 by_cases h6:60 < n
 ·exact Or.inl fun W hW=>sask_n W e f s a b n c k l h6 (hide fun W' _=>check_ok e f W' hfo) (hide fun W' hW'=>hC W' (gN.kept (gr_trans hW hW')) (gD.kept (gr_trans hW hW')))
 by_cases h7:60 < k
 ·exact Or.inl fun W hW=>sask_d W e f s a b n c k l (by omega) h7 (hide fun W' _=>check_ok e f W' hfo) (hide fun W' hW'=>hC W' (gN.kept (gr_trans hW hW')) (gD.kept (gr_trans hW hW')))
 exact Or.inr ⟨⟨e,f,rfl,rfl,hfo⟩,p,d,gN,gD,hD0,hg,hs,num_len gN (by omega),num_len gD (by omega),hC,fun W hW=>sask_ok W e f s a b n c k l (by omega) (by omega) (hide fun W' _=>check_ok e f W' hfo) (hide fun W' hW'=>hC W' (gN.kept (gr_trans hW hW')) (gD.kept (gr_trans hW hW')))⟩
def capR (I md:Nat) (s:Bool) (r:Nat):Nat:=if r < I then r else if fth md s false 1 then I else I - 1
end Go.Proofs.YtfjegmlpkiaifaaGreatDoor
