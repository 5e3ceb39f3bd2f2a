/- Of what DigitsCutRow stands on: DgLawW. -/
import Derived.Test.YteafdlblemdclaaGreatDoorPba
import Derived.Test.YteafdlblemdclaaGreatDoorPbd
namespace Go.Proofs.YteafdlblemdclaaGreatDoor
open Go.RowKit
set_option maxHeartbeats 2000000
set_option maxRecDepth 20000
theorem dalive_is (w:World)  (ht:Tb w) (htp:Tpw w) (H1:Hid (∀ W:World,Tb W→Tpw W→Calls Tryz.prog 9 #[.agg #[.int .i64 5,.int .i64 10],.int .u64 11878] W fun e W'=>e = .returned (.tuple #[.agg #[.bool false,.string ⟨#[57,57,57,55,53,53,56,53,57,51,55,53]⟩,.int .i64 (-13)],.int .i64 0])∧Below W.heap.size W W')) (H2:Hid (∀ W:World,Tb W→Tpw W→Calls Tryz.prog 15 #[.agg #[.int .i64 5,.int .i64 10],.int .u64 11878,.int .i64 3,.int .u8 0] W fun e W'=>e = .returned (.tuple #[.agg #[.bool false,.string ⟨#[49]⟩,.int .i64 (-1)],.bool false,.int .i64 0])∧Below W.heap.size W W')) (H3:Hid (∀ W:World,Tb W→Tpw W→Calls Tryz.prog 16 #[.agg #[.int .i64 5,.int .i64 10],.int .u64 32769,.int .i64 3,.int .u8 4] W fun e W'=>e = .returned (.tuple #[.agg #[.bool true,.string ⟨#[49]⟩,.int .i64 (-3)],.bool false,.int .i64 0])∧Below W.heap.size W W')) (H4:Hid (∀ W:World,Calls Tryz.prog 19 #[.agg #[.int .i64 5,.int .i64 10]] W fun e W'=>e = .returned (.tuple #[.int .i64 5,.int .i64 0])∧Below W.heap.size W W')) (H5:Hid (∀ W:World,Calls Tryz.prog 22 #[.agg #[.int .i64 5,.int .i64 10]] W fun e W'=>e = .returned (.tuple #[.int .i64 3,.int .i64 0])∧Below W.heap.size W W')) :
  Calls Tryz.prog 7 #[] w fun en w'=>en = .returned (.bool true)∧Below w.heap.size w w':=by
 refine calls_sym Tryz.func7 rfl (by kernel_rfl) fun T hK=>?_
 replace hK:Kn T _ []:=hK
 have hS:=Fb.begin w
 have hG:GsAt [] w:=trivial
 refine wq hS hG hK (fun p1=>[.v 0 (.bool false)]) (fun p1=>[(0,.bool false)]) (fun p1=>?_) (fun p1 W1 T hF hK=>?_)
 ·refine okv ?_
  exact ok_nil
 replace hS:=SymF.fc hS hF [] []
 replace hG:=hF.gx
 clear hF
 refine wq hS hG hK (fun p2=>[.v 14 (.agg #[.int .i64 5,.int .i64 10]),.n 1 #[.int .i64 0,.int .i64 0] 23,.p 1001 0 [.int .i64 5,.int .i64 10]]) (fun p2=>[(0,.bool false),(1,pT (p2 1).N 0)]) (fun p2=>?_) (fun p2 W2 T hF hK=>?_)
 ·refine okv ?_
  refine okn ?_
  refine okp ?_
  exact ok_nil
 replace hS:=SymF.fc hS hF [1001] [⟨(p2 1).N,#[.int .i64 5,.int .i64 10],23,true⟩]
 replace hG:=hF.gx
 clear hF
 refine wq hS hG hK (fun p3=>[.l 16 (.agg #[.int .i64 5,.int .i64 10]) 0 0,.c (some 17) (cV (.tuple #[.agg #[.bool false,.string ⟨#[57,57,57,55,53,53,56,53,57,51,55,53]⟩,.int .i64 (-13)],.int .i64 0])),.v 15 (.tuple #[.agg #[.bool false,.string ⟨#[57,57,57,55,53,53,56,53,57,51,55,53]⟩,.int .i64 (-13)],.int .i64 0]),.v 18 (.agg #[.bool false,.string ⟨#[57,57,57,55,53,53,56,53,57,51,55,53]⟩,.int .i64 (-13)]),.v 19 (.int .i64 0),.n 2 #[.bool false,.string ⟨#[]⟩,.int .i64 0] 35,.p 1005 0 [.bool false,.string ⟨#[57,57,57,55,53,53,56,53,57,51,55,53]⟩,.int .i64 (-13)],.v 3 (.int .i64 0)]) (fun p3=>[(0,.bool false),(1,pT (p2 1).N 0),(2,pT (p3 5).N 0),(3,.int .i64 0)]) (fun p3=>?_) (fun p3 W3 T hF hK=>?_)
 ·refine okl ?_
  refine okc (fun W cx=>as_v (unhide H1 _ (ht.kept cx.fr) (htp.kept cx.fr))) ?_
  iterate 3 refine okv ?_
  refine okn ?_
  refine okp ?_
  refine okv ?_
  exact ok_nil
 replace hS:=SymF.fc hS hF [0,1005] [⟨(p2 1).N,#[.int .i64 5,.int .i64 10],23,true⟩,⟨(p3 5).N,#[.bool false,.string ⟨#[57,57,57,55,53,53,56,53,57,51,55,53]⟩,.int .i64 (-13)],35,true⟩]
 replace hG:=hF.gx
 clear hF
 refine wq hS hG hK (fun p4=>[.l 21 (.agg #[.int .i64 5,.int .i64 10]) 0 0,.c (some 22) (cV (.tuple #[.agg #[.bool false,.string ⟨#[49]⟩,.int .i64 (-1)],.bool false,.int .i64 0])),.v 20 (.tuple #[.agg #[.bool false,.string ⟨#[49]⟩,.int .i64 (-1)],.bool false,.int .i64 0]),.v 23 (.agg #[.bool false,.string ⟨#[49]⟩,.int .i64 (-1)]),.v 24 (.bool false),.v 25 (.int .i64 0),.n 4 #[.bool false,.string ⟨#[]⟩,.int .i64 0] 35,.p 1006 0 [.bool false,.string ⟨#[49]⟩,.int .i64 (-1)],.v 5 (.bool false),.v 6 (.int .i64 0)]) (fun p4=>[(0,.bool false),(1,pT (p2 1).N 0),(2,pT (p3 5).N 0),(3,.int .i64 0),(4,pT (p4 6).N 0),(5,.bool false),(6,.int .i64 0)]) (fun p4=>?_) (fun p4 W4 T hF hK=>?_)
 ·refine okl ?_
  refine okc (fun W cx=>as_v (unhide H2 _ (ht.kept cx.fr) (htp.kept cx.fr))) ?_
  iterate 4 refine okv ?_
  refine okn ?_
  refine okp ?_
  iterate 2 refine okv ?_
  exact ok_nil
 replace hS:=SymF.fc hS hF [0,1,1006] [⟨(p2 1).N,#[.int .i64 5,.int .i64 10],23,true⟩,⟨(p3 5).N,#[.bool false,.string ⟨#[57,57,57,55,53,53,56,53,57,51,55,53]⟩,.int .i64 (-13)],35,true⟩,⟨(p4 6).N,#[.bool false,.string ⟨#[49]⟩,.int .i64 (-1)],35,true⟩]
 replace hG:=hF.gx
 clear hF
 refine wq hS hG hK (fun p5=>[.l 27 (.agg #[.int .i64 5,.int .i64 10]) 0 0,.c (some 28) (cV (.tuple #[.agg #[.bool true,.string ⟨#[49]⟩,.int .i64 (-3)],.bool false,.int .i64 0])),.v 26 (.tuple #[.agg #[.bool true,.string ⟨#[49]⟩,.int .i64 (-3)],.bool false,.int .i64 0]),.v 29 (.agg #[.bool true,.string ⟨#[49]⟩,.int .i64 (-3)]),.v 30 (.bool false),.v 31 (.int .i64 0),.n 7 #[.bool false,.string ⟨#[]⟩,.int .i64 0] 35,.p 1006 0 [.bool true,.string ⟨#[49]⟩,.int .i64 (-3)],.v 8 (.bool false),.v 9 (.int .i64 0)]) (fun p5=>[(0,.bool false),(1,pT (p2 1).N 0),(2,pT (p3 5).N 0),(3,.int .i64 0),(4,pT (p4 6).N 0),(5,.bool false),(6,.int .i64 0),(7,pT (p5 6).N 0),(8,.bool false),(9,.int .i64 0)]) (fun p5=>?_) (fun p5 W5 T hF hK=>?_)
 ·refine okl ?_
  refine okc (fun W cx=>as_v (unhide H3 _ (ht.kept cx.fr) (htp.kept cx.fr))) ?_
  iterate 4 refine okv ?_
  refine okn ?_
  refine okp ?_
  iterate 2 refine okv ?_
  exact ok_nil
 replace hS:=SymF.fc hS hF [0,1,2,1006] [⟨(p2 1).N,#[.int .i64 5,.int .i64 10],23,true⟩,⟨(p3 5).N,#[.bool false,.string ⟨#[57,57,57,55,53,53,56,53,57,51,55,53]⟩,.int .i64 (-13)],35,true⟩,⟨(p4 6).N,#[.bool false,.string ⟨#[49]⟩,.int .i64 (-1)],35,true⟩,⟨(p5 6).N,#[.bool true,.string ⟨#[49]⟩,.int .i64 (-3)],35,true⟩]
 replace hG:=hF.gx
 clear hF
 refine wq hS hG hK (fun p6=>[.l 33 (.agg #[.int .i64 5,.int .i64 10]) 0 0,.c (some 34) (cV (.tuple #[.int .i64 5,.int .i64 0])),.v 32 (.tuple #[.int .i64 5,.int .i64 0]),.v 35 (.int .i64 5),.v 36 (.int .i64 0),.v 10 (.int .i64 5),.v 11 (.int .i64 0)]) (fun p6=>[(0,.bool false),(1,pT (p2 1).N 0),(2,pT (p3 5).N 0),(3,.int .i64 0),(4,pT (p4 6).N 0),(5,.bool false),(6,.int .i64 0),(7,pT (p5 6).N 0),(8,.bool false),(9,.int .i64 0),(10,.int .i64 5),(11,.int .i64 0)]) (fun p6=>?_) (fun p6 W6 T hF hK=>?_)
 ·refine okl ?_
  refine okc (fun W cx=>as_v (unhide H4 _)) ?_
  iterate 5 refine okv ?_
  exact ok_nil
 obtain ⟨hS,hG⟩:=SymF.fg hS hF
 clear hF
 refine wq hS hG hK (fun p7=>[.l 38 (.agg #[.int .i64 5,.int .i64 10]) 0 0,.c (some 39) (cV (.tuple #[.int .i64 3,.int .i64 0])),.v 37 (.tuple #[.int .i64 3,.int .i64 0]),.v 40 (.int .i64 3),.v 41 (.int .i64 0),.v 12 (.int .i64 3),.v 13 (.int .i64 0)]) (fun p7=>[(0,.bool false),(2,pT (p3 5).N 0),(3,.int .i64 0),(4,pT (p4 6).N 0),(5,.bool false),(6,.int .i64 0),(7,pT (p5 6).N 0),(8,.bool false),(9,.int .i64 0),(10,.int .i64 5),(11,.int .i64 0),(12,.int .i64 3),(13,.int .i64 0)]) (fun p7=>?_) (fun p7 W7 T hF hK=>?_)
 ·refine okl ?_
  refine okc (fun W cx=>as_v (unhide H5 _)) ?_
  iterate 5 refine okv ?_
  exact ok_nil
 replace hS:=SymF.fc hS hF [1,2,3] [⟨(p3 5).N,#[.bool false,.string ⟨#[57,57,57,55,53,53,56,53,57,51,55,53]⟩,.int .i64 (-13)],35,true⟩,⟨(p4 6).N,#[.bool false,.string ⟨#[49]⟩,.int .i64 (-1)],35,true⟩,⟨(p5 6).N,#[.bool true,.string ⟨#[49]⟩,.int .i64 (-3)],35,true⟩]
 replace hG:=hF.gx
 clear hF
 refine wq hS hG hK (fun p8=>[.v 42 (.int .i64 0),.v 43 (.bool true),.v 44 (.bool true),.v 45 (.int .i64 0),.v 46 (.bool true),.v 47 (.bool true),.v 48 (.bool true),.v 49 (.int .i64 0),.v 50 (.bool true),.v 51 (.bool true),.v 52 (.bool true),.v 53 (.int .i64 0),.v 54 (.bool true),.v 55 (.bool true),.v 56 (.bool true),.v 57 (.int .i64 0),.v 58 (.bool true),.v 59 (.bool true),.v 60 (.bool true),.l 61 (.agg #[.bool false,.string ⟨#[57,57,57,55,53,53,56,53,57,51,55,53]⟩,.int .i64 (-13)]) 0 0,.v 62 (.agg #[.bool false,.string { data:=#[57,57,57,55,53,53,56,53,57,51,55,53] },.int .i64 (-13)]),.v 63 (.bool true),.v 64 (.bool true),.v 65 (.bool true),.l 66 (.agg #[.bool false,.string ⟨#[49]⟩,.int .i64 (-1)]) 1 0,.v 67 (.agg #[.bool false,.string { data:=#[49] },.int .i64 (-1)]),.v 68 (.bool true),.v 69 (.bool true),.v 70 (.bool true),.v 71 (.bool false),.v 72 (.bool true),.v 73 (.bool true),.v 74 (.bool true),.l 75 (.agg #[.bool true,.string ⟨#[49]⟩,.int .i64 (-3)]) 2 0,.v 76 (.agg #[.bool true,.string { data:=#[49] },.int .i64 (-3)]),.v 77 (.bool true),.v 78 (.bool true),.v 79 (.bool true),.v 80 (.bool false),.v 81 (.bool true),.v 82 (.bool true),.v 83 (.bool true),.v 84 (.int .i64 5),.v 85 (.bool true),.v 86 (.bool true),.v 87 (.bool true),.v 88 (.int .i64 3),.v 89 (.bool true),.v 90 (.bool true),.v 0 (.bool true)]) (fun p8=>[(0,.bool true)]) (fun p8=>?_) (fun p8 W8 T hF hK=>?_)
 ·iterate 19 refine okv ?_
  refine okl ?_
  refine okv ?_
  refine ok_vr (dc_eql (false) (⟨#[57,57,57,55,53,53,56,53,57,51,55,53]⟩) ((-13))) (by kernel_rfl) ?_
  iterate 2 refine okv ?_
  refine okl ?_
  refine okv ?_
  refine ok_vr (dc_eql (false) (⟨#[49]⟩) ((-1))) (by kernel_rfl) ?_
  iterate 6 refine okv ?_
  refine okl ?_
  refine okv ?_
  refine ok_vr (dc_eql (true) (⟨#[49]⟩) ((-3))) (by kernel_rfl) ?_
  iterate 14 refine okv ?_
  exact ok_nil
 replace hS:=SymF.fc hS hF [] []
 replace hG:=hF.gx
 clear hF
 refine wp_ret ?_
 exact sym_end hS hK (.bool true) [] [] (by kernel_rfl) (by kernel_rfl) ⟨rfl,hS.fr⟩
theorem dcut_e (w:World) (E F b:Int) (err k md:Int) (he:err≠0) (ht:Tb w) (htp:Tpw w) (HL:Hid (∀ W:World,Tb W→Tpw W→Calls Tryz.prog 7 #[] W fun e W'=>e = .returned (.bool true)∧Below W.heap.size W W')) (HA:Hid (∀ W:World,Tb W→Tpw W→Calls Tryz.prog 9 #[.agg #[.int .i64 E,.int .i64 F],.int .u64 b] W fun e W'=>e = .returned (.tuple #[.agg #[.bool false,.string ⟨#[]⟩,.int .i64 0],.int .i64 err])∧Below W.heap.size W W')) :
  Calls Tryz.prog 4 #[.agg #[.int .i64 E,.int .i64 F],.int .u64 b,.int .i64 k,.int .u8 md] w fun en w'=>en = .returned (.bool true)∧Below w.heap.size w w':=by
 refine calls_sym Tryz.func4 rfl (by kernel_rfl) fun T hK=>?_
 replace hK:Kn T _ [(0,.agg #[.int .i64 E,.int .i64 F]),(1,.int .u64 b),(2,.int .i64 k),(3,.int .u8 md)]:=hK
 have hS:=Fb.begin w
 have hG:GsAt [] w:=trivial
 refine wq hS hG hK (fun p1=>[.n 4 #[.int .i64 E,.int .i64 F] 23,.v 8 (.bool false)]) (fun p1=>[(1,.int .u64 b),(2,.int .i64 k),(3,.int .u8 md),(4,pT (p1 0).N 0),(8,.bool false)]) (fun p1=>?_) (fun p1 W1 T hF hK=>?_)
 ·refine okn ?_
  refine okv ?_
  exact ok_nil
 replace hS:=SymF.fc hS hF [1000] [⟨(p1 0).N,#[.int .i64 E,.int .i64 F],23,true⟩]
 replace hG:=hF.gx
 clear hF
 refine wq hS hG hK (fun p2=>[.c (some 27) (cV (.bool true)),.v 9 (.bool true)]) (fun p2=>[(1,.int .u64 b),(2,.int .i64 k),(3,.int .u8 md),(4,pT (p1 0).N 0),(8,.bool false),(9,.bool true)]) (fun p2=>?_) (fun p2 W2 T hF hK=>?_)
 ·refine okc (fun W cx=>as_v (unhide HL _ (ht.kept cx.fr) (htp.kept cx.fr))) ?_
  refine okv ?_
  exact ok_nil
 obtain ⟨hS,hG⟩:=SymF.fg hS hF
 clear hF
 refine wq hS hG hK (fun p3=>[.l 29 (.agg #[.int .i64 E,.int .i64 F]) 0 0,.v 30 (.int .u64 b),.c (some 31) (cV (.tuple #[.agg #[.bool false,.string ⟨#[]⟩,.int .i64 0],.int .i64 err])),.v 28 (.tuple #[.agg #[.bool false,.string ⟨#[]⟩,.int .i64 0],.int .i64 err]),.v 32 (.agg #[.bool false,.string ⟨#[]⟩,.int .i64 0]),.v 33 (.int .i64 err),.n 10 #[.bool false,.string ⟨#[]⟩,.int .i64 0] 35,.p 1006 0 [.bool false,.string ⟨#[]⟩,.int .i64 0],.v 11 (.int .i64 err)]) (fun p3=>[(1,.int .u64 b),(2,.int .i64 k),(3,.int .u8 md),(4,pT (p1 0).N 0),(8,.bool false),(9,.bool true),(10,pT (p3 6).N 0),(11,.int .i64 err)]) (fun p3=>?_) (fun p3 W3 T hF hK=>?_)
 ·refine okl ?_
  refine okv ?_
  refine okc (fun W cx=>as_v (unhide HA _ (ht.kept cx.fr) (htp.kept cx.fr))) ?_
  iterate 3 refine okv ?_
  refine okn ?_
  refine okp ?_
  refine okv ?_
  exact ok_nil
 replace hS:=SymF.fc hS hF [0,1006] [⟨(p1 0).N,#[.int .i64 E,.int .i64 F],23,true⟩,⟨(p3 6).N,#[.bool false,.string ⟨#[]⟩,.int .i64 0],35,true⟩]
 replace hG:=hF.gx
 clear hF
 refine wp_seq ?_
 refine wq hS hG hK (fun p4=>[.v 34 (.int .i64 err),.v 35 (.bool true)]) (fun p4=>[(1,.int .u64 b),(2,.int .i64 k),(3,.int .u8 md),(4,pT (p1 0).N 0),(8,.bool false),(9,.bool true),(10,pT (p3 6).N 0),(35,.bool true)]) (fun p4=>?_) (fun p4 W4 T hF hK=>?_)
 ·refine okv ?_
  refine okvb (bne_iff_ne.2 (show err≠0 by omega)) ?_
  exact ok_nil
 obtain ⟨hS,hG⟩:=SymF.fg hS hF
 clear hF
 refine wp_cond_true (hK.ew 35) ?_
 refine wq hS hG hK (fun p5=>[.v 36 (.bool true),.v 8 (.bool true)]) (fun p5=>[(1,.int .u64 b),(2,.int .i64 k),(3,.int .u8 md),(4,pT (p1 0).N 0),(8,.bool true),(9,.bool true),(10,pT (p3 6).N 0),(35,.bool true)]) (fun p5=>?_) (fun p5 W5 T hF hK=>?_)
 ·iterate 2 refine okv ?_
  exact ok_nil
 obtain ⟨hS,hG⟩:=SymF.fg hS hF
 clear hF
 refine wp_ret ?_
 refine then_r ?_
 exact sym_end hS hK (.bool true) [] [] (by kernel_rfl) (by kernel_rfl) ⟨rfl,hS.fr⟩
theorem dcut_ok (w:World) (E F b:Int) (k md:Int) (g3 g4 g5 i4 i5:Bool) (s3 s4 s5:ByteArray) (x3 x4 x5 e4 e5:Int) (ht:Tb w) (htp:Tpw w) (HL:Hid (∀ W:World,Tb W→Tpw W→Calls Tryz.prog 7 #[] W fun e W'=>e = .returned (.bool true)∧Below W.heap.size W W')) (HA:Hid (∀ W:World,Tb W→Tpw W→Calls Tryz.prog 9 #[.agg #[.int .i64 E,.int .i64 F],.int .u64 b] W fun e W'=>e = .returned (.tuple #[.agg #[.bool g3,.string s3,.int .i64 x3],.int .i64 0])∧Below W.heap.size W W')) (H4:Hid (∀ W:World,Tb W→Tpw W→Calls Tryz.prog 15 #[.agg #[.int .i64 E,.int .i64 F],.int .u64 b,.int .i64 k,.int .u8 md] W fun e W'=>e = .returned (.tuple #[.agg #[.bool g4,.string s4,.int .i64 x4],.bool i4,.int .i64 e4])∧Below W.heap.size W W')) (H5:Hid (∀ W:World,Tb W→Tpw W→Calls Tryz.prog 16 #[.agg #[.int .i64 E,.int .i64 F],.int .u64 b,.int .i64 k,.int .u8 md] W fun e W'=>e = .returned (.tuple #[.agg #[.bool g5,.string s5,.int .i64 x5],.bool i5,.int .i64 e5])∧Below W.heap.size W W')) (H7:Hid (∀ W:World,Calls Tryz.prog 17 #[.agg #[.bool g3,.string s3,.int .i64 x3],.int .i64 k,.int .u8 md] W fun e W'=>e = .returned (.tuple #[.agg #[.bool g4,.string s4,.int .i64 x4],.bool i4,.int .i64 e4])∧Below W.heap.size W W')) (H8:Hid (∀ W:World,Calls Tryz.prog 18 #[.agg #[.bool g3,.string s3,.int .i64 x3],.int .i64 k,.int .u8 md] W fun e W'=>e = .returned (.tuple #[.agg #[.bool g5,.string s5,.int .i64 x5],.bool i5,.int .i64 e5])∧Below W.heap.size W W')) (H6:Hid (∀ W:World,Tb W→Tpw W→Calls Tryz.prog 15 #[.agg #[.int .i64 E,.int .i64 F],.int .u64 b,.int .i64 ((max 1 s3.size:Nat):Int),.int .u8 0] W fun e W'=>e = .returned (.tuple #[.agg #[.bool g3,.string s3,.int .i64 x3],.bool true,.int .i64 0])∧Below W.heap.size W W')) :
  Calls Tryz.prog 4 #[.agg #[.int .i64 E,.int .i64 F],.int .u64 b,.int .i64 k,.int .u8 md] w fun en w'=>en = .returned (.bool true)∧Below w.heap.size w w':=by
 refine calls_sym Tryz.func4 rfl (by kernel_rfl) fun T hK=>?_
 replace hK:Kn T _ [(0,.agg #[.int .i64 E,.int .i64 F]),(1,.int .u64 b),(2,.int .i64 k),(3,.int .u8 md)]:=hK
 have hS:=Fb.begin w
 have hG:GsAt [] w:=trivial
 refine wq hS hG hK (fun p1=>[.n 4 #[.int .i64 E,.int .i64 F] 23,.v 8 (.bool false)]) (fun p1=>[(1,.int .u64 b),(2,.int .i64 k),(3,.int .u8 md),(4,pT (p1 0).N 0),(8,.bool false)]) (fun p1=>?_) (fun p1 W1 T hF hK=>?_)
 ·refine okn ?_
  refine okv ?_
  exact ok_nil
 replace hS:=SymF.fc hS hF [1000] [⟨(p1 0).N,#[.int .i64 E,.int .i64 F],23,true⟩]
 replace hG:=hF.gx
 clear hF
 refine wq hS hG hK (fun p2=>[.c (some 27) (cV (.bool true)),.v 9 (.bool true)]) (fun p2=>[(1,.int .u64 b),(2,.int .i64 k),(3,.int .u8 md),(4,pT (p1 0).N 0),(8,.bool false),(9,.bool true)]) (fun p2=>?_) (fun p2 W2 T hF hK=>?_)
 ·refine okc (fun W cx=>as_v (unhide HL _ (ht.kept cx.fr) (htp.kept cx.fr))) ?_
  refine okv ?_
  exact ok_nil
 obtain ⟨hS,hG⟩:=SymF.fg hS hF
 clear hF
 refine wq hS hG hK (fun p3=>[.l 29 (.agg #[.int .i64 E,.int .i64 F]) 0 0,.v 30 (.int .u64 b),.c (some 31) (cV (.tuple #[.agg #[.bool g3,.string s3,.int .i64 x3],.int .i64 0])),.v 28 (.tuple #[.agg #[.bool g3,.string s3,.int .i64 x3],.int .i64 0]),.v 32 (.agg #[.bool g3,.string s3,.int .i64 x3]),.v 33 (.int .i64 0),.n 10 #[.bool false,.string ⟨#[]⟩,.int .i64 0] 35,.p 1006 0 [.bool g3,.string s3,.int .i64 x3],.v 11 (.int .i64 0)]) (fun p3=>[(1,.int .u64 b),(2,.int .i64 k),(3,.int .u8 md),(4,pT (p1 0).N 0),(8,.bool false),(9,.bool true),(10,pT (p3 6).N 0),(11,.int .i64 0)]) (fun p3=>?_) (fun p3 W3 T hF hK=>?_)
 ·refine okl ?_
  refine okv ?_
  refine okc (fun W cx=>as_v (unhide HA _ (ht.kept cx.fr) (htp.kept cx.fr))) ?_
  iterate 3 refine okv ?_
  refine okn ?_
  refine okp ?_
  refine okv ?_
  exact ok_nil
 replace hS:=SymF.fc hS hF [0,1006] [⟨(p1 0).N,#[.int .i64 E,.int .i64 F],23,true⟩,⟨(p3 6).N,#[.bool g3,.string s3,.int .i64 x3],35,true⟩]
 replace hG:=hF.gx
 clear hF
 refine wp_seq ?_
 refine wq hS hG hK (fun p4=>[.v 34 (.int .i64 0),.v 35 (.bool false)]) (fun p4=>[(1,.int .u64 b),(2,.int .i64 k),(3,.int .u8 md),(4,pT (p1 0).N 0),(8,.bool false),(9,.bool true),(10,pT (p3 6).N 0),(35,.bool false)]) (fun p4=>?_) (fun p4 W4 T hF hK=>?_)
 ·iterate 2 refine okv ?_
  exact ok_nil
 obtain ⟨hS,hG⟩:=SymF.fg hS hF
 clear hF
 refine wp_cond_false (hK.ew 35) (wp_skip (then_n ?_))
 refine wq hS hG hK (fun p5=>[.l 38 (.agg #[.int .i64 E,.int .i64 F]) 0 0,.v 39 (.int .u64 b),.v 40 (.int .i64 k),.v 41 (.int .u8 md),.c (some 42) (cV (.tuple #[.agg #[.bool g4,.string s4,.int .i64 x4],.bool i4,.int .i64 e4])),.v 37 (.tuple #[.agg #[.bool g4,.string s4,.int .i64 x4],.bool i4,.int .i64 e4]),.v 43 (.agg #[.bool g4,.string s4,.int .i64 x4]),.v 44 (.bool i4),.v 45 (.int .i64 e4),.n 12 #[.bool false,.string ⟨#[]⟩,.int .i64 0] 35,.p 1009 0 [.bool g4,.string s4,.int .i64 x4],.v 13 (.bool i4),.v 14 (.int .i64 e4)]) (fun p5=>[(1,.int .u64 b),(2,.int .i64 k),(3,.int .u8 md),(4,pT (p1 0).N 0),(8,.bool false),(9,.bool true),(10,pT (p3 6).N 0),(12,pT (p5 9).N 0),(13,.bool i4),(14,.int .i64 e4),(35,.bool false)]) (fun p5=>?_) (fun p5 W5 T hF hK=>?_)
 ·refine okl ?_
  iterate 3 refine okv ?_
  refine okc (fun W cx=>as_v (unhide H4 _ (ht.kept cx.fr) (htp.kept cx.fr))) ?_
  iterate 4 refine okv ?_
  refine okn ?_
  refine okp ?_
  iterate 2 refine okv ?_
  exact ok_nil
 replace hS:=SymF.fc hS hF [0,1,1009] [⟨(p1 0).N,#[.int .i64 E,.int .i64 F],23,true⟩,⟨(p3 6).N,#[.bool g3,.string s3,.int .i64 x3],35,true⟩,⟨(p5 9).N,#[.bool g4,.string s4,.int .i64 x4],35,true⟩]
 replace hG:=hF.gx
 clear hF
 refine wq hS hG hK (fun p6=>[.l 47 (.agg #[.int .i64 E,.int .i64 F]) 0 0,.v 48 (.int .u64 b),.v 49 (.int .i64 k),.v 50 (.int .u8 md),.c (some 51) (cV (.tuple #[.agg #[.bool g5,.string s5,.int .i64 x5],.bool i5,.int .i64 e5])),.v 46 (.tuple #[.agg #[.bool g5,.string s5,.int .i64 x5],.bool i5,.int .i64 e5]),.v 52 (.agg #[.bool g5,.string s5,.int .i64 x5]),.v 53 (.bool i5),.v 54 (.int .i64 e5),.n 15 #[.bool false,.string ⟨#[]⟩,.int .i64 0] 35,.p 1009 0 [.bool g5,.string s5,.int .i64 x5],.v 16 (.bool i5),.v 17 (.int .i64 e5)]) (fun p6=>[(1,.int .u64 b),(2,.int .i64 k),(3,.int .u8 md),(4,pT (p1 0).N 0),(8,.bool false),(9,.bool true),(10,pT (p3 6).N 0),(12,pT (p5 9).N 0),(13,.bool i4),(14,.int .i64 e4),(15,pT (p6 9).N 0),(16,.bool i5),(17,.int .i64 e5),(35,.bool false)]) (fun p6=>?_) (fun p6 W6 T hF hK=>?_)
 ·refine okl ?_
  iterate 3 refine okv ?_
  refine okc (fun W cx=>as_v (unhide H5 _ (ht.kept cx.fr) (htp.kept cx.fr))) ?_
  iterate 4 refine okv ?_
  refine okn ?_
  refine okp ?_
  iterate 2 refine okv ?_
  exact ok_nil
 replace hS:=SymF.fc hS hF [0,1,2,1009] [⟨(p1 0).N,#[.int .i64 E,.int .i64 F],23,true⟩,⟨(p3 6).N,#[.bool g3,.string s3,.int .i64 x3],35,true⟩,⟨(p5 9).N,#[.bool g4,.string s4,.int .i64 x4],35,true⟩,⟨(p6 9).N,#[.bool g5,.string s5,.int .i64 x5],35,true⟩]
 replace hG:=hF.gx
 clear hF
 refine wq hS hG hK (fun p7=>[.l 56 (.agg #[.bool g3,.string s3,.int .i64 x3]) 1 0,.v 57 (.int .i64 k),.v 58 (.int .u8 md),.c (some 59) (cV (.tuple #[.agg #[.bool g4,.string s4,.int .i64 x4],.bool i4,.int .i64 e4])),.v 55 (.tuple #[.agg #[.bool g4,.string s4,.int .i64 x4],.bool i4,.int .i64 e4]),.v 60 (.agg #[.bool g4,.string s4,.int .i64 x4]),.v 61 (.bool i4),.v 62 (.int .i64 e4),.n 18 #[.bool false,.string ⟨#[]⟩,.int .i64 0] 35,.p 1008 0 [.bool g4,.string s4,.int .i64 x4],.v 19 (.bool i4),.v 20 (.int .i64 e4)]) (fun p7=>[(1,.int .u64 b),(2,.int .i64 k),(3,.int .u8 md),(4,pT (p1 0).N 0),(8,.bool false),(9,.bool true),(10,pT (p3 6).N 0),(12,pT (p5 9).N 0),(13,.bool i4),(14,.int .i64 e4),(15,pT (p6 9).N 0),(16,.bool i5),(17,.int .i64 e5),(18,pT (p7 8).N 0),(19,.bool i4),(20,.int .i64 e4),(35,.bool false)]) (fun p7=>?_) (fun p7 W7 T hF hK=>?_)
 ·refine okl ?_
  iterate 2 refine okv ?_
  refine okc (fun W cx=>as_v (unhide H7 _)) ?_
  iterate 4 refine okv ?_
  refine okn ?_
  refine okp ?_
  iterate 2 refine okv ?_
  exact ok_nil
 replace hS:=SymF.fc hS hF [0,1,2,3,1008] [⟨(p1 0).N,#[.int .i64 E,.int .i64 F],23,true⟩,⟨(p3 6).N,#[.bool g3,.string s3,.int .i64 x3],35,true⟩,⟨(p5 9).N,#[.bool g4,.string s4,.int .i64 x4],35,true⟩,⟨(p6 9).N,#[.bool g5,.string s5,.int .i64 x5],35,true⟩,⟨(p7 8).N,#[.bool g4,.string s4,.int .i64 x4],35,true⟩]
 replace hG:=hF.gx
 clear hF
 refine wq hS hG hK (fun p8=>[.l 64 (.agg #[.bool g3,.string s3,.int .i64 x3]) 1 0,.v 65 (.int .i64 k),.v 66 (.int .u8 md),.c (some 67) (cV (.tuple #[.agg #[.bool g5,.string s5,.int .i64 x5],.bool i5,.int .i64 e5])),.v 63 (.tuple #[.agg #[.bool g5,.string s5,.int .i64 x5],.bool i5,.int .i64 e5]),.v 68 (.agg #[.bool g5,.string s5,.int .i64 x5]),.v 69 (.bool i5),.v 70 (.int .i64 e5),.n 21 #[.bool false,.string ⟨#[]⟩,.int .i64 0] 35,.p 1008 0 [.bool g5,.string s5,.int .i64 x5],.v 22 (.bool i5),.v 23 (.int .i64 e5)]) (fun p8=>[(1,.int .u64 b),(4,pT (p1 0).N 0),(8,.bool false),(9,.bool true),(10,pT (p3 6).N 0),(12,pT (p5 9).N 0),(13,.bool i4),(14,.int .i64 e4),(15,pT (p6 9).N 0),(16,.bool i5),(17,.int .i64 e5),(18,pT (p7 8).N 0),(19,.bool i4),(20,.int .i64 e4),(21,pT (p8 8).N 0),(22,.bool i5),(23,.int .i64 e5),(35,.bool false)]) (fun p8=>?_) (fun p8 W8 T hF hK=>?_)
 ·refine okl ?_
  iterate 2 refine okv ?_
  refine okc (fun W cx=>as_v (unhide H8 _)) ?_
  iterate 4 refine okv ?_
  refine okn ?_
  refine okp ?_
  iterate 2 refine okv ?_
  exact ok_nil
 replace hS:=SymF.fc hS hF [0,1,2,3,4,1008] [⟨(p1 0).N,#[.int .i64 E,.int .i64 F],23,true⟩,⟨(p3 6).N,#[.bool g3,.string s3,.int .i64 x3],35,true⟩,⟨(p5 9).N,#[.bool g4,.string s4,.int .i64 x4],35,true⟩,⟨(p6 9).N,#[.bool g5,.string s5,.int .i64 x5],35,true⟩,⟨(p7 8).N,#[.bool g4,.string s4,.int .i64 x4],35,true⟩,⟨(p8 8).N,#[.bool g5,.string s5,.int .i64 x5],35,true⟩]
 replace hG:=hF.gx
 clear hF
 refine wp_seq ?_
 refine wq hS hG hK (fun p9=>[.v 71 (.bool true),.v 72 (.bool false),.v 73 (.bool false),.l 74 (.agg #[.bool g4,.string s4,.int .i64 x4]) 2 0,.l 75 (.agg #[.bool g4,.string s4,.int .i64 x4]) 4 0,.v 76 (.bool false),.v 77 (.bool false),.v 78 (.bool false),.v 79 (.bool i4),.v 80 (.bool i4),.v 81 (.bool false),.v 82 (.bool false),.v 83 (.bool false),.v 84 (.int .i64 e4),.v 85 (.int .i64 e4),.v 86 (.bool false),.v 87 (.bool false),.v 88 (.bool false),.l 89 (.agg #[.bool g5,.string s5,.int .i64 x5]) 3 0,.l 90 (.agg #[.bool g5,.string s5,.int .i64 x5]) 5 0,.v 91 (.bool false),.v 92 (.bool false),.v 93 (.bool false),.v 94 (.bool i5),.v 95 (.bool i5),.v 96 (.bool false),.v 97 (.bool false),.v 98 (.bool false),.v 99 (.int .i64 e5),.v 100 (.int .i64 e5),.v 101 (.bool false),.v 102 (.bool false)]) (fun p9=>[(1,.int .u64 b),(4,pT (p1 0).N 0),(8,.bool false),(9,.bool true),(10,pT (p3 6).N 0),(35,.bool false),(102,.bool false)]) (fun p9=>?_) (fun p9 W9 T hF hK=>?_)
 ·iterate 3 refine okv ?_
  iterate 2 refine okl ?_
  refine ok_vr (dc_neq (g4) (s4) (x4)) (by kernel_rfl) ?_
  iterate 4 refine okv ?_
  refine okvb (bne_self_eq_false i4) ?_
  iterate 4 refine okv ?_
  refine okvb (bne_self_eq_false e4) ?_
  iterate 2 refine okv ?_
  iterate 2 refine okl ?_
  refine ok_vr (dc_neq (g5) (s5) (x5)) (by kernel_rfl) ?_
  iterate 4 refine okv ?_
  refine okvb (bne_self_eq_false i5) ?_
  iterate 4 refine okv ?_
  refine okvb (bne_self_eq_false e5) ?_
  refine okv ?_
  exact ok_nil
 replace hS:=SymF.fc hS hF [0,1] [⟨(p1 0).N,#[.int .i64 E,.int .i64 F],23,true⟩,⟨(p3 6).N,#[.bool g3,.string s3,.int .i64 x3],35,true⟩]
 replace hG:=hF.gx
 clear hF
 refine wp_cond_false (hK.ew 102) (wp_skip (then_n ?_))
 refine wq hS hG hK (fun p10=>[.l 104 (.agg #[.int .i64 E,.int .i64 F]) 0 0,.v 105 (.int .u64 b),.v 106 (pT (p3 6).N 1),.l 107 (.string s3) 1 1,.v 108 (.int .i64 (s3.size:Int)),.v 109 (.int .i64 ((max 1 s3.size:Nat):Int)),.c (some 110) (cV (.tuple #[.agg #[.bool g3,.string s3,.int .i64 x3],.bool true,.int .i64 0])),.v 103 (.tuple #[.agg #[.bool g3,.string s3,.int .i64 x3],.bool true,.int .i64 0]),.v 111 (.agg #[.bool g3,.string s3,.int .i64 x3]),.v 112 (.bool true),.v 113 (.int .i64 0),.n 24 #[.bool false,.string ⟨#[]⟩,.int .i64 0] 35,.p 1011 0 [.bool g3,.string s3,.int .i64 x3],.v 25 (.bool true),.v 26 (.int .i64 0)]) (fun p10=>[(8,.bool false),(9,.bool true),(10,pT (p3 6).N 0),(24,pT (p10 11).N 0),(25,.bool true),(26,.int .i64 0),(35,.bool false),(102,.bool false)]) (fun p10=>?_) (fun p10 W10 T hF hK=>?_)
 ·refine okl ?_
  iterate 2 refine okv ?_
  refine okl ?_
  refine okv ?_
  refine okvi ((imax 1 (s3.size:Int)).trans (by omega)) ?_
  refine okc (fun W cx=>as_v (unhide H6 _ (ht.kept cx.fr) (htp.kept cx.fr))) ?_
  iterate 4 refine okv ?_
  refine okn ?_
  refine okp ?_
  iterate 2 refine okv ?_
  exact ok_nil
 replace hS:=SymF.fc hS hF [1,1011] [⟨(p3 6).N,#[.bool g3,.string s3,.int .i64 x3],35,true⟩,⟨(p10 11).N,#[.bool g3,.string s3,.int .i64 x3],35,true⟩]
 replace hG:=hF.gx
 clear hF
 refine wq hS hG hK (fun p11=>[.l 114 (.agg #[.bool g3,.string s3,.int .i64 x3]) 1 0,.l 115 (.agg #[.bool g3,.string s3,.int .i64 x3]) 0 0,.v 116 (.bool true),.v 117 (.bool true),.v 118 (.bool true),.v 119 (.bool true),.v 120 (.bool true),.v 121 (.int .i64 0),.v 122 (.bool true),.v 123 (.bool true),.v 8 (.bool true)]) (fun p11=>[(8,.bool true),(9,.bool true),(35,.bool false),(102,.bool false)]) (fun p11=>?_) (fun p11 W11 T hF hK=>?_)
 ·iterate 2 refine okl ?_
  refine ok_vr (dc_eql (g3) (s3) (x3)) (by kernel_rfl) ?_
  iterate 8 refine okv ?_
  exact ok_nil
 replace hS:=SymF.fc hS hF [] []
 replace hG:=hF.gx
 clear hF
 refine wp_ret ?_
 exact sym_end hS hK (.bool true) [] [] (by kernel_rfl) (by kernel_rfl) ⟨rfl,hS.fr⟩
end Go.Proofs.YteafdlblemdclaaGreatDoor
