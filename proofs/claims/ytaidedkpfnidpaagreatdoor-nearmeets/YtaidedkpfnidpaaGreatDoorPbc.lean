/- Of what NearMeetsRow stands on: RyCmp. -/
import Derived.Test.YtaidedkpfnidpaaGreatDoorPbb
import Derived.Test.YtaidedkpfnidpaaGreatDoorPat
namespace Go.Proofs.YtaidedkpfnidpaaGreatDoor
open Go.RowKit
set_option maxHeartbeats 2000000
set_option maxRecDepth 20000
theorem ysign_t (w:World)   :
  Calls Tryz.prog 39 #[.bool true] w fun en w'=>en = .returned (.int .i64 1)∧Below w.heap.size w w':=by
 refine calls_sym Tryz.func39 rfl (by kernel_rfl) fun T hK=>?_
 replace hK:Kn T _ [(0,.bool true)]:=hK
 have hS:=Fb.begin w
 have hG:GsAt [] w:=trivial
 refine wq hS hG hK (fun p1=>[.v 2 (.int .i64 0)]) (fun p1=>[(0,.bool true),(2,.int .i64 0)]) (fun p1=>?_) (fun p1 W1 T hF hK=>?_)
 ·refine okv ?_
  exact ok_nil
 replace hS:=SymF.fc hS hF [] []
 replace hG:=hF.gx
 clear hF
 refine wp_seq ?_
 refine wq hS hG hK (fun p2=>[.v 3 (.bool true)]) (fun p2=>[(2,.int .i64 0),(3,.bool true)]) (fun p2=>?_) (fun p2 W2 T hF hK=>?_)
 ·refine okv ?_
  exact ok_nil
 obtain ⟨hS,hG⟩:=SymF.fg hS hF
 clear hF
 refine wp_cond_true (hK.ew 3) ?_
 refine wq hS hG hK (fun p3=>[.v 2 (.int .i64 1)]) (fun p3=>[(2,.int .i64 1),(3,.bool true)]) (fun p3=>?_) (fun p3 W3 T hF hK=>?_)
 ·refine okv ?_
  exact ok_nil
 obtain ⟨hS,hG⟩:=SymF.fg hS hF
 clear hF
 refine wp_ret ?_
 refine then_r ?_
 exact sym_end hS hK (.int .i64 1) [] [] (by kernel_rfl) (by kernel_rfl) ⟨rfl,hS.fr⟩
theorem ysign_f (w:World)   :
  Calls Tryz.prog 39 #[.bool false] w fun en w'=>en = .returned (.int .i64 (-1))∧Below w.heap.size w w':=by
 refine calls_sym Tryz.func39 rfl (by kernel_rfl) fun T hK=>?_
 replace hK:Kn T _ [(0,.bool false)]:=hK
 have hS:=Fb.begin w
 have hG:GsAt [] w:=trivial
 refine wq hS hG hK (fun p1=>[.v 2 (.int .i64 0)]) (fun p1=>[(0,.bool false),(2,.int .i64 0)]) (fun p1=>?_) (fun p1 W1 T hF hK=>?_)
 ·refine okv ?_
  exact ok_nil
 replace hS:=SymF.fc hS hF [] []
 replace hG:=hF.gx
 clear hF
 refine wp_seq ?_
 refine wq hS hG hK (fun p2=>[.v 3 (.bool false)]) (fun p2=>[(2,.int .i64 0),(3,.bool false)]) (fun p2=>?_) (fun p2 W2 T hF hK=>?_)
 ·refine okv ?_
  exact ok_nil
 obtain ⟨hS,hG⟩:=SymF.fg hS hF
 clear hF
 refine wp_cond_false (hK.ew 3) (wp_skip (then_n ?_))
 refine wq hS hG hK (fun p3=>[.v 2 (.int .i64 (-1))]) (fun p3=>[(2,.int .i64 (-1)),(3,.bool false)]) (fun p3=>?_) (fun p3 W3 T hF hK=>?_)
 ·refine okv ?_
  exact ok_nil
 obtain ⟨hS,hG⟩:=SymF.fg hS hF
 clear hF
 refine wp_ret ?_
 exact sym_end hS hK (.int .i64 (-1)) [] [] (by kernel_rfl) (by kernel_rfl) ⟨rfl,hS.fr⟩
theorem ywcmp {x y:Nat} {r:Int} (hr:r = cmpI x y) (p:Nat):WCmp p x y r:=by
 subst hr; exact wcmp_ok p x y
theorem farther_t (s t:Bool) (a1 a2 a3 a4:Option Addr) (n1 n2 n3 n4 c1 c2 c3 c4:Nat) (m1 m2 m3 m4:Nat) (ho:¬ Over (m1 * m4)) (ho2:¬ Over (m3 * m2)) (hc:decide ((0:Int) < cmpI (m1 * m4) (m3 * m2)) = true) (w:World) (h1:Num w a1 n1 m1) (h2:Num w a2 n2 m2) (h3:Num w a3 n3 m3) (h4:Num w a4 n4 m4) :
  Calls Tryz.prog 40 #[.agg #[.bool s,.slice a1 n1 c1,.slice a2 n2 c2,.bool t,.slice a3 n3 c3,.slice a4 n4 c4]] w fun en w'=>en = .returned (.bool true)∧Below w.heap.size w w':=by
 obtain ⟨r,hr⟩:∃ r,r = cmpI (m1 * m4) (m3 * m2):=⟨_,rfl⟩
 rw [← hr] at hc
 refine calls_sym Tryz.func40 rfl (by kernel_rfl) fun T hK=>?_
 replace hK:Kn T _ [(0,.agg #[.bool s,.slice a1 n1 c1,.slice a2 n2 c2,.bool t,.slice a3 n3 c3,.slice a4 n4 c4])]:=hK
 have hS:=Fb.begin w
 have hG:GsAt [gN a1 n1 m1,gN a2 n2 m2,gN a3 n3 m3,gN a4 n4 m4] w:=⟨h1,h2,h3,h4,trivial⟩
 refine wq hS hG hK (fun p1=>[.n 1 #[.bool s,.slice a1 n1 c1,.slice a2 n2 c2,.bool t,.slice a3 n3 c3,.slice a4 n4 c4] 78,.v 2 (.bool false)]) (fun p1=>[(1,pT (p1 0).N 0),(2,.bool false)]) (fun p1=>?_) (fun p1 W1 T hF hK=>?_)
 ·refine okn ?_
  refine okv ?_
  exact ok_nil
 replace hS:=SymF.fc hS hF [1000] [⟨(p1 0).N,#[.bool s,.slice a1 n1 c1,.slice a2 n2 c2,.bool t,.slice a3 n3 c3,.slice a4 n4 c4],78,true⟩]
 replace hG:=hF.gx
 clear hF
 refine wq hS hG hK (fun p2=>[.n 3 #[.int .i64 0] 124]) (fun p2=>[(1,pT (p1 0).N 0),(2,.bool false),(3,pT (p2 0).N 0)]) (fun p2=>?_) (fun p2 W2 T hF hK=>?_)
 ·refine okn ?_
  exact ok_nil
 replace hS:=SymF.fc hS hF [0,1000] [⟨(p1 0).N,#[.bool s,.slice a1 n1 c1,.slice a2 n2 c2,.bool t,.slice a3 n3 c3,.slice a4 n4 c4],78,true⟩,⟨(p2 0).N,#[.int .i64 0],124,true⟩]
 replace hG:=hF.gx
 clear hF
 refine wq hS hG hK (fun p3=>[.v 6 (pT (p1 0).N 0),.v 7 (pT (p1 0).N 1),.l 8 (.agg #[.slice a1 n1 c1]) 0 1,.v 9 (pT (p1 0).N 3),.v 10 (pT (p1 0).N 5),.l 11 (.agg #[.slice a4 n4 c4]) 0 5,.c (some 12) (cN W2.heap.size (m1 * m4)),.n 4 #[.slice none 0 0] 27,.p 1007 0 [.slice (p3 6).A (p3 6).N (p3 6).C]]) (fun p3=>[(1,pT (p1 0).N 0),(2,.bool false),(3,pT (p2 0).N 0),(4,pT (p3 7).N 0)]) (fun p3=>?_) (fun p3 W3 T hF hK=>?_)
 ·iterate 2 refine okv ?_
  refine okl ?_
  iterate 2 refine okv ?_
  refine okl ?_
  refine okc (fun W cx=>as_n cx.hb (wmul_ok (p2 0).N ho _ _ _ c1 _ _ c4 ⟨_,_,cx.B 1 _ rfl (by kernel_rfl) (by kernel_rfl),rfl⟩ (cx.G.1) (cx.G.2.2.2.1))) ?_
  refine okn ?_
  refine okp ?_
  exact ok_nil
 replace hS:=SymF.fc hS hF [0,1,1007] [⟨(p1 0).N,#[.bool s,.slice a1 n1 c1,.slice a2 n2 c2,.bool t,.slice a3 n3 c3,.slice a4 n4 c4],78,true⟩,⟨(p2 0).N,#[.int .i64 0],124,true⟩,⟨(p3 7).N,#[.slice (p3 6).A (p3 6).N (p3 6).C],27,true⟩]
 replace hG:GsAt (gM W2.heap.size (p3 6).A (p3 6).N (p3 6).C (m1 * m4) :: _) W3:=⟨hF.fx 6,hF.gx⟩
 clear hF
 refine wq hS hG hK (fun p4=>[.v 13 (pT (p1 0).N 3),.v 14 (pT (p1 0).N 4),.l 15 (.agg #[.slice a3 n3 c3]) 0 4,.v 16 (pT (p1 0).N 0),.v 17 (pT (p1 0).N 2),.l 18 (.agg #[.slice a2 n2 c2]) 0 2,.c (some 19) (cN W3.heap.size (m3 * m2)),.n 5 #[.slice none 0 0] 27,.p 1007 0 [.slice (p4 6).A (p4 6).N (p4 6).C]]) (fun p4=>[(1,pT (p1 0).N 0),(2,.bool false),(3,pT (p2 0).N 0),(4,pT (p3 7).N 0),(5,pT (p4 7).N 0)]) (fun p4=>?_) (fun p4 W4 T hF hK=>?_)
 ·iterate 2 refine okv ?_
  refine okl ?_
  iterate 2 refine okv ?_
  refine okl ?_
  refine okc (fun W cx=>as_n cx.hb (wmul_ok (p2 0).N ho2 _ _ _ c3 _ _ c2 ⟨_,_,cx.B 1 _ rfl (by kernel_rfl) (by kernel_rfl),rfl⟩ (cx.G.2.2.2.1) (cx.G.2.2.1))) ?_
  refine okn ?_
  refine okp ?_
  exact ok_nil
 replace hS:=SymF.fc hS hF [0,1,2,1007] [⟨(p1 0).N,#[.bool s,.slice a1 n1 c1,.slice a2 n2 c2,.bool t,.slice a3 n3 c3,.slice a4 n4 c4],78,true⟩,⟨(p2 0).N,#[.int .i64 0],124,true⟩,⟨(p3 7).N,#[.slice (p3 6).A (p3 6).N (p3 6).C],27,true⟩,⟨(p4 7).N,#[.slice (p4 6).A (p4 6).N (p4 6).C],27,true⟩]
 replace hG:GsAt (gM W3.heap.size (p4 6).A (p4 6).N (p4 6).C (m3 * m2) :: _) W4:=⟨hF.fx 6,hF.gx⟩
 clear hF
 refine wp_seq ?_
 refine wq hS hG hK (fun p5=>[.v 20 (pT (p2 0).N 0),.v 21 (pT (p2 0).N 0),.l 22 (.int .i64 0) 1 0,.v 23 (.bool true)]) (fun p5=>[(1,pT (p1 0).N 0),(2,.bool false),(3,pT (p2 0).N 0),(4,pT (p3 7).N 0),(5,pT (p4 7).N 0),(23,.bool true)]) (fun p5=>?_) (fun p5 W5 T hF hK=>?_)
 ·iterate 2 refine okv ?_
  refine okl ?_
  refine okv ?_
  exact ok_nil
 obtain ⟨hS,hG⟩:=SymF.fg hS hF
 clear hF
 refine wp_cond_true (hK.ew 23) ?_
 refine wq hS hG hK (fun p6=>[.l 24 (.agg #[.slice (p3 6).A (p3 6).N (p3 6).C]) 2 0,.l 25 (.agg #[.slice (p4 6).A (p4 6).N (p4 6).C]) 3 0,.c (some 26) (cV (.int .i64 r)),.v 27 (.bool true),.v 2 (.bool true)]) (fun p6=>[(1,pT (p1 0).N 0),(2,.bool true)]) (fun p6=>?_) (fun p6 W6 T hF hK=>?_)
 ·iterate 2 refine okl ?_
  refine okc (fun W cx=>as_v (ywcmp hr (p2 0).N _ _ _ (p3 6).C _ _ (p4 6).C ⟨_,_,cx.B 1 _ rfl (by kernel_rfl) (by kernel_rfl),rfl⟩ (Mine.num cx.G.2.1) (Mine.num cx.G.1))) ?_
  refine okvb ((show decide (r > 0) = true from hc)) ?_
  refine okv ?_
  exact ok_nil
 obtain ⟨hS,hG⟩:=SymF.fg hS hF
 clear hF
 refine wp_ret ?_
 refine then_r ?_
 exact sym_end hS hK (.bool true) [] [] (by kernel_rfl) (by kernel_rfl) ⟨rfl,hS.fr⟩
theorem farther_f (s t:Bool) (a1 a2 a3 a4:Option Addr) (n1 n2 n3 n4 c1 c2 c3 c4:Nat) (m1 m2 m3 m4:Nat) (ho:¬ Over (m1 * m4)) (ho2:¬ Over (m3 * m2)) (hc:decide ((0:Int) < cmpI (m1 * m4) (m3 * m2)) = false) (w:World) (h1:Num w a1 n1 m1) (h2:Num w a2 n2 m2) (h3:Num w a3 n3 m3) (h4:Num w a4 n4 m4) :
  Calls Tryz.prog 40 #[.agg #[.bool s,.slice a1 n1 c1,.slice a2 n2 c2,.bool t,.slice a3 n3 c3,.slice a4 n4 c4]] w fun en w'=>en = .returned (.bool false)∧Below w.heap.size w w':=by
 obtain ⟨r,hr⟩:∃ r,r = cmpI (m1 * m4) (m3 * m2):=⟨_,rfl⟩
 rw [← hr] at hc
 refine calls_sym Tryz.func40 rfl (by kernel_rfl) fun T hK=>?_
 replace hK:Kn T _ [(0,.agg #[.bool s,.slice a1 n1 c1,.slice a2 n2 c2,.bool t,.slice a3 n3 c3,.slice a4 n4 c4])]:=hK
 have hS:=Fb.begin w
 have hG:GsAt [gN a1 n1 m1,gN a2 n2 m2,gN a3 n3 m3,gN a4 n4 m4] w:=⟨h1,h2,h3,h4,trivial⟩
 refine wq hS hG hK (fun p1=>[.n 1 #[.bool s,.slice a1 n1 c1,.slice a2 n2 c2,.bool t,.slice a3 n3 c3,.slice a4 n4 c4] 78,.v 2 (.bool false)]) (fun p1=>[(1,pT (p1 0).N 0),(2,.bool false)]) (fun p1=>?_) (fun p1 W1 T hF hK=>?_)
 ·refine okn ?_
  refine okv ?_
  exact ok_nil
 replace hS:=SymF.fc hS hF [1000] [⟨(p1 0).N,#[.bool s,.slice a1 n1 c1,.slice a2 n2 c2,.bool t,.slice a3 n3 c3,.slice a4 n4 c4],78,true⟩]
 replace hG:=hF.gx
 clear hF
 refine wq hS hG hK (fun p2=>[.n 3 #[.int .i64 0] 124]) (fun p2=>[(1,pT (p1 0).N 0),(2,.bool false),(3,pT (p2 0).N 0)]) (fun p2=>?_) (fun p2 W2 T hF hK=>?_)
 ·refine okn ?_
  exact ok_nil
 replace hS:=SymF.fc hS hF [0,1000] [⟨(p1 0).N,#[.bool s,.slice a1 n1 c1,.slice a2 n2 c2,.bool t,.slice a3 n3 c3,.slice a4 n4 c4],78,true⟩,⟨(p2 0).N,#[.int .i64 0],124,true⟩]
 replace hG:=hF.gx
 clear hF
 refine wq hS hG hK (fun p3=>[.v 6 (pT (p1 0).N 0),.v 7 (pT (p1 0).N 1),.l 8 (.agg #[.slice a1 n1 c1]) 0 1,.v 9 (pT (p1 0).N 3),.v 10 (pT (p1 0).N 5),.l 11 (.agg #[.slice a4 n4 c4]) 0 5,.c (some 12) (cN W2.heap.size (m1 * m4)),.n 4 #[.slice none 0 0] 27,.p 1007 0 [.slice (p3 6).A (p3 6).N (p3 6).C]]) (fun p3=>[(1,pT (p1 0).N 0),(2,.bool false),(3,pT (p2 0).N 0),(4,pT (p3 7).N 0)]) (fun p3=>?_) (fun p3 W3 T hF hK=>?_)
 ·iterate 2 refine okv ?_
  refine okl ?_
  iterate 2 refine okv ?_
  refine okl ?_
  refine okc (fun W cx=>as_n cx.hb (wmul_ok (p2 0).N ho _ _ _ c1 _ _ c4 ⟨_,_,cx.B 1 _ rfl (by kernel_rfl) (by kernel_rfl),rfl⟩ (cx.G.1) (cx.G.2.2.2.1))) ?_
  refine okn ?_
  refine okp ?_
  exact ok_nil
 replace hS:=SymF.fc hS hF [0,1,1007] [⟨(p1 0).N,#[.bool s,.slice a1 n1 c1,.slice a2 n2 c2,.bool t,.slice a3 n3 c3,.slice a4 n4 c4],78,true⟩,⟨(p2 0).N,#[.int .i64 0],124,true⟩,⟨(p3 7).N,#[.slice (p3 6).A (p3 6).N (p3 6).C],27,true⟩]
 replace hG:GsAt (gM W2.heap.size (p3 6).A (p3 6).N (p3 6).C (m1 * m4) :: _) W3:=⟨hF.fx 6,hF.gx⟩
 clear hF
 refine wq hS hG hK (fun p4=>[.v 13 (pT (p1 0).N 3),.v 14 (pT (p1 0).N 4),.l 15 (.agg #[.slice a3 n3 c3]) 0 4,.v 16 (pT (p1 0).N 0),.v 17 (pT (p1 0).N 2),.l 18 (.agg #[.slice a2 n2 c2]) 0 2,.c (some 19) (cN W3.heap.size (m3 * m2)),.n 5 #[.slice none 0 0] 27,.p 1007 0 [.slice (p4 6).A (p4 6).N (p4 6).C]]) (fun p4=>[(1,pT (p1 0).N 0),(2,.bool false),(3,pT (p2 0).N 0),(4,pT (p3 7).N 0),(5,pT (p4 7).N 0)]) (fun p4=>?_) (fun p4 W4 T hF hK=>?_)
 ·iterate 2 refine okv ?_
  refine okl ?_
  iterate 2 refine okv ?_
  refine okl ?_
  refine okc (fun W cx=>as_n cx.hb (wmul_ok (p2 0).N ho2 _ _ _ c3 _ _ c2 ⟨_,_,cx.B 1 _ rfl (by kernel_rfl) (by kernel_rfl),rfl⟩ (cx.G.2.2.2.1) (cx.G.2.2.1))) ?_
  refine okn ?_
  refine okp ?_
  exact ok_nil
 replace hS:=SymF.fc hS hF [0,1,2,1007] [⟨(p1 0).N,#[.bool s,.slice a1 n1 c1,.slice a2 n2 c2,.bool t,.slice a3 n3 c3,.slice a4 n4 c4],78,true⟩,⟨(p2 0).N,#[.int .i64 0],124,true⟩,⟨(p3 7).N,#[.slice (p3 6).A (p3 6).N (p3 6).C],27,true⟩,⟨(p4 7).N,#[.slice (p4 6).A (p4 6).N (p4 6).C],27,true⟩]
 replace hG:GsAt (gM W3.heap.size (p4 6).A (p4 6).N (p4 6).C (m3 * m2) :: _) W4:=⟨hF.fx 6,hF.gx⟩
 clear hF
 refine wp_seq ?_
 refine wq hS hG hK (fun p5=>[.v 20 (pT (p2 0).N 0),.v 21 (pT (p2 0).N 0),.l 22 (.int .i64 0) 1 0,.v 23 (.bool true)]) (fun p5=>[(1,pT (p1 0).N 0),(2,.bool false),(3,pT (p2 0).N 0),(4,pT (p3 7).N 0),(5,pT (p4 7).N 0),(23,.bool true)]) (fun p5=>?_) (fun p5 W5 T hF hK=>?_)
 ·iterate 2 refine okv ?_
  refine okl ?_
  refine okv ?_
  exact ok_nil
 obtain ⟨hS,hG⟩:=SymF.fg hS hF
 clear hF
 refine wp_cond_true (hK.ew 23) ?_
 refine wq hS hG hK (fun p6=>[.l 24 (.agg #[.slice (p3 6).A (p3 6).N (p3 6).C]) 2 0,.l 25 (.agg #[.slice (p4 6).A (p4 6).N (p4 6).C]) 3 0,.c (some 26) (cV (.int .i64 r)),.v 27 (.bool false),.v 2 (.bool false)]) (fun p6=>[(1,pT (p1 0).N 0),(2,.bool false)]) (fun p6=>?_) (fun p6 W6 T hF hK=>?_)
 ·iterate 2 refine okl ?_
  refine okc (fun W cx=>as_v (ywcmp hr (p2 0).N _ _ _ (p3 6).C _ _ (p4 6).C ⟨_,_,cx.B 1 _ rfl (by kernel_rfl) (by kernel_rfl),rfl⟩ (Mine.num cx.G.2.1) (Mine.num cx.G.1))) ?_
  refine okvb ((show decide (r > 0) = false from hc)) ?_
  refine okv ?_
  exact ok_nil
 obtain ⟨hS,hG⟩:=SymF.fg hS hF
 clear hF
 refine wp_ret ?_
 refine then_r ?_
 exact sym_end hS hK (.bool false) [] [] (by kernel_rfl) (by kernel_rfl) ⟨rfl,hS.fr⟩
theorem ysign (b:Bool) (w:World):Calls Tryz.prog 39 #[.bool b] w fun en w'=>en = .returned (.int .i64 (if b then 1 else -1))∧Below w.heap.size w w':=by
 cases b
 ·exact ysign_f w
 ·exact ysign_t w
theorem rcmp_same (s t:Bool) (a1 a2 a3 a4:Option Addr) (n1 n2 n3 n4 c1 c2 c3 c4:Nat) (w:World) (HC:Hid (∀ W:World,Below w.heap.size w W→Calls Tryz.prog 37 #[.agg #[.bool s,.slice a1 n1 c1,.slice a2 n2 c2,.bool t,.slice a3 n3 c3,.slice a4 n4 c4]] W fun e w'=>e = .returned (.int .i64 0)∧Below W.heap.size W w')) (HS:Hid (∀ W:World,Below w.heap.size w W→Calls Tryz.prog 38 #[.agg #[.bool s,.slice a1 n1 c1,.slice a2 n2 c2,.bool t,.slice a3 n3 c3,.slice a4 n4 c4]] W fun e w'=>e = .returned (.bool true)∧Below W.heap.size W w')) :
  Calls Tryz.prog 11 #[.agg #[.bool s,.slice a1 n1 c1,.slice a2 n2 c2],.agg #[.bool t,.slice a3 n3 c3,.slice a4 n4 c4]] w fun en w'=>en = .returned (.tuple #[.int .i64 0,.int .i64 0])∧Below w.heap.size w w':=by
 refine calls_sym Tryz.func11 rfl (by kernel_rfl) fun T hK=>?_
 replace hK:Kn T _ [(0,.agg #[.bool s,.slice a1 n1 c1,.slice a2 n2 c2]),(1,.agg #[.bool t,.slice a3 n3 c3,.slice a4 n4 c4])]:=hK
 have hS:=Fb.begin w
 have hG:GsAt [] w:=trivial
 refine wq hS hG hK (fun p1=>[.n 2 #[.bool s,.slice a1 n1 c1,.slice a2 n2 c2] 29,.n 3 #[.bool t,.slice a3 n3 c3,.slice a4 n4 c4] 29,.v 4 (.int .i64 0),.v 5 (.int .i64 0)]) (fun p1=>[(2,pT (p1 0).N 0),(3,pT (p1 1).N 0),(4,.int .i64 0),(5,.int .i64 0)]) (fun p1=>?_) (fun p1 W1 T hF hK=>?_)
 ·iterate 2 refine okn ?_
  iterate 2 refine okv ?_
  exact ok_nil
 replace hS:=SymF.fc hS hF [1000,1001] [⟨(p1 0).N,#[.bool s,.slice a1 n1 c1,.slice a2 n2 c2],29,true⟩,⟨(p1 1).N,#[.bool t,.slice a3 n3 c3,.slice a4 n4 c4],29,true⟩]
 replace hG:=hF.gx
 clear hF
 refine wq hS hG hK (fun p2=>[.l 8 (.agg #[.bool s,.slice a1 n1 c1,.slice a2 n2 c2]) 0 0,.l 9 (.agg #[.bool t,.slice a3 n3 c3,.slice a4 n4 c4]) 1 0,.v 10 (.agg #[.bool s,.slice a1 n1 c1,.slice a2 n2 c2,.bool t,.slice a3 n3 c3,.slice a4 n4 c4]),.n 6 #[.bool false,.slice none 0 0,.slice none 0 0,.bool false,.slice none 0 0,.slice none 0 0] 78,.p 1003 0 [.bool s,.slice a1 n1 c1,.slice a2 n2 c2,.bool t,.slice a3 n3 c3,.slice a4 n4 c4]]) (fun p2=>[(2,pT (p1 0).N 0),(3,pT (p1 1).N 0),(4,.int .i64 0),(5,.int .i64 0),(6,pT (p2 3).N 0)]) (fun p2=>?_) (fun p2 W2 T hF hK=>?_)
 ·iterate 2 refine okl ?_
  refine okv ?_
  refine okn ?_
  refine okp ?_
  exact ok_nil
 replace hS:=SymF.fc hS hF [0,1,1003] [⟨(p1 0).N,#[.bool s,.slice a1 n1 c1,.slice a2 n2 c2],29,true⟩,⟨(p1 1).N,#[.bool t,.slice a3 n3 c3,.slice a4 n4 c4],29,true⟩,⟨(p2 3).N,#[.bool s,.slice a1 n1 c1,.slice a2 n2 c2,.bool t,.slice a3 n3 c3,.slice a4 n4 c4],78,true⟩]
 replace hG:=hF.gx
 clear hF
 refine wp_seq ?_
 refine wq hS hG hK (fun p3=>[.l 11 (.agg #[.bool s,.slice a1 n1 c1,.slice a2 n2 c2,.bool t,.slice a3 n3 c3,.slice a4 n4 c4]) 2 0,.c (some 12) (cV (.int .i64 0)),.v 7 (.int .i64 0)]) (fun p3=>[(2,pT (p1 0).N 0),(3,pT (p1 1).N 0),(4,.int .i64 0),(5,.int .i64 0),(6,pT (p2 3).N 0),(7,.int .i64 0)]) (fun p3=>?_) (fun p3 W3 T hF hK=>?_)
 ·refine okl ?_
  refine okc (fun W cx=>as_v (unhide HC _ cx.fr)) ?_
  refine okv ?_
  exact ok_nil
 obtain ⟨hS,hG⟩:=SymF.fg hS hF
 clear hF
 refine wq hS hG hK (fun p4=>[.v 13 (.int .i64 0),.v 14 (.bool false)]) (fun p4=>[(2,pT (p1 0).N 0),(3,pT (p1 1).N 0),(4,.int .i64 0),(5,.int .i64 0),(6,pT (p2 3).N 0),(7,.int .i64 0),(14,.bool false)]) (fun p4=>?_) (fun p4 W4 T hF hK=>?_)
 ·iterate 2 refine okv ?_
  exact ok_nil
 obtain ⟨hS,hG⟩:=SymF.fg hS hF
 clear hF
 refine wp_cond_false (hK.ew 14) (wp_skip ?_)
 refine then_n (wp_seq ?_)
 refine wq hS hG hK (fun p5=>[.l 16 (.agg #[.bool s,.slice a1 n1 c1,.slice a2 n2 c2,.bool t,.slice a3 n3 c3,.slice a4 n4 c4]) 2 0,.c (some 17) (cV (.bool true))]) (fun p5=>[(2,pT (p1 0).N 0),(3,pT (p1 1).N 0),(4,.int .i64 0),(5,.int .i64 0),(6,pT (p2 3).N 0),(7,.int .i64 0),(17,.bool true)]) (fun p5=>?_) (fun p5 W5 T hF hK=>?_)
 ·refine okl ?_
  refine okc (fun W cx=>as_v (unhide HS _ cx.fr)) ?_
  exact ok_nil
 obtain ⟨hS,hG⟩:=SymF.fg hS hF
 clear hF
 refine wp_cond_true (hK.ew 17) ?_
 refine wq hS hG hK (fun p6=>[.v 4 (.int .i64 0),.v 5 (.int .i64 0)]) (fun p6=>[(2,pT (p1 0).N 0),(3,pT (p1 1).N 0),(4,.int .i64 0),(5,.int .i64 0),(6,pT (p2 3).N 0),(7,.int .i64 0)]) (fun p6=>?_) (fun p6 W6 T hF hK=>?_)
 ·iterate 2 refine okv ?_
  exact ok_nil
 obtain ⟨hS,hG⟩:=SymF.fg hS hF
 clear hF
 refine wp_ret ?_
 refine then_r ?_
 exact sym_end hS hK (.tuple #[.int .i64 0,.int .i64 0]) [] [] (by kernel_rfl) (by kernel_rfl) ⟨rfl,hS.fr⟩
theorem ycmp_ne (s t:Bool) (a1 a2 a3 a4:Option Addr) (n1 n2 n3 n4 c1 c2 c3 c4:Nat) (w:World) (HC:Hid (∀ W:World,Below w.heap.size w W→Calls Tryz.prog 37 #[.agg #[.bool s,.slice a1 n1 c1,.slice a2 n2 c2,.bool t,.slice a3 n3 c3,.slice a4 n4 c4]] W fun e w'=>e = .returned (.int .i64 0)∧Below W.heap.size W w')) (HS:Hid (∀ W:World,Below w.heap.size w W→Calls Tryz.prog 38 #[.agg #[.bool s,.slice a1 n1 c1,.slice a2 n2 c2,.bool t,.slice a3 n3 c3,.slice a4 n4 c4]] W fun e w'=>e = .returned (.bool false)∧Below W.heap.size W w')) (hst:(s != t) = true) :
  Calls Tryz.prog 11 #[.agg #[.bool s,.slice a1 n1 c1,.slice a2 n2 c2],.agg #[.bool t,.slice a3 n3 c3,.slice a4 n4 c4]] w fun en w'=>en = .returned (.tuple #[.int .i64 (if t then 1 else -1),.int .i64 0])∧Below w.heap.size w w':=by
 refine calls_sym Tryz.func11 rfl (by kernel_rfl) fun T hK=>?_
 replace hK:Kn T _ [(0,.agg #[.bool s,.slice a1 n1 c1,.slice a2 n2 c2]),(1,.agg #[.bool t,.slice a3 n3 c3,.slice a4 n4 c4])]:=hK
 have hS:=Fb.begin w
 have hG:GsAt [] w:=trivial
 refine wq hS hG hK (fun p1=>[.n 2 #[.bool s,.slice a1 n1 c1,.slice a2 n2 c2] 29,.n 3 #[.bool t,.slice a3 n3 c3,.slice a4 n4 c4] 29,.v 4 (.int .i64 0),.v 5 (.int .i64 0)]) (fun p1=>[(2,pT (p1 0).N 0),(3,pT (p1 1).N 0),(4,.int .i64 0),(5,.int .i64 0)]) (fun p1=>?_) (fun p1 W1 T hF hK=>?_)
 ·iterate 2 refine okn ?_
  iterate 2 refine okv ?_
  exact ok_nil
 replace hS:=SymF.fc hS hF [1000,1001] [⟨(p1 0).N,#[.bool s,.slice a1 n1 c1,.slice a2 n2 c2],29,true⟩,⟨(p1 1).N,#[.bool t,.slice a3 n3 c3,.slice a4 n4 c4],29,true⟩]
 replace hG:=hF.gx
 clear hF
 refine wq hS hG hK (fun p2=>[.l 8 (.agg #[.bool s,.slice a1 n1 c1,.slice a2 n2 c2]) 0 0,.l 9 (.agg #[.bool t,.slice a3 n3 c3,.slice a4 n4 c4]) 1 0,.v 10 (.agg #[.bool s,.slice a1 n1 c1,.slice a2 n2 c2,.bool t,.slice a3 n3 c3,.slice a4 n4 c4]),.n 6 #[.bool false,.slice none 0 0,.slice none 0 0,.bool false,.slice none 0 0,.slice none 0 0] 78,.p 1003 0 [.bool s,.slice a1 n1 c1,.slice a2 n2 c2,.bool t,.slice a3 n3 c3,.slice a4 n4 c4]]) (fun p2=>[(2,pT (p1 0).N 0),(3,pT (p1 1).N 0),(4,.int .i64 0),(5,.int .i64 0),(6,pT (p2 3).N 0)]) (fun p2=>?_) (fun p2 W2 T hF hK=>?_)
 ·iterate 2 refine okl ?_
  refine okv ?_
  refine okn ?_
  refine okp ?_
  exact ok_nil
 replace hS:=SymF.fc hS hF [0,1,1003] [⟨(p1 0).N,#[.bool s,.slice a1 n1 c1,.slice a2 n2 c2],29,true⟩,⟨(p1 1).N,#[.bool t,.slice a3 n3 c3,.slice a4 n4 c4],29,true⟩,⟨(p2 3).N,#[.bool s,.slice a1 n1 c1,.slice a2 n2 c2,.bool t,.slice a3 n3 c3,.slice a4 n4 c4],78,true⟩]
 replace hG:=hF.gx
 clear hF
 refine wp_seq ?_
 refine wq hS hG hK (fun p3=>[.l 11 (.agg #[.bool s,.slice a1 n1 c1,.slice a2 n2 c2,.bool t,.slice a3 n3 c3,.slice a4 n4 c4]) 2 0,.c (some 12) (cV (.int .i64 0)),.v 7 (.int .i64 0)]) (fun p3=>[(2,pT (p1 0).N 0),(3,pT (p1 1).N 0),(4,.int .i64 0),(5,.int .i64 0),(6,pT (p2 3).N 0),(7,.int .i64 0)]) (fun p3=>?_) (fun p3 W3 T hF hK=>?_)
 ·refine okl ?_
  refine okc (fun W cx=>as_v (unhide HC _ cx.fr)) ?_
  refine okv ?_
  exact ok_nil
 obtain ⟨hS,hG⟩:=SymF.fg hS hF
 clear hF
 refine wq hS hG hK (fun p4=>[.v 13 (.int .i64 0),.v 14 (.bool false)]) (fun p4=>[(2,pT (p1 0).N 0),(3,pT (p1 1).N 0),(4,.int .i64 0),(5,.int .i64 0),(6,pT (p2 3).N 0),(7,.int .i64 0),(14,.bool false)]) (fun p4=>?_) (fun p4 W4 T hF hK=>?_)
 ·iterate 2 refine okv ?_
  exact ok_nil
 obtain ⟨hS,hG⟩:=SymF.fg hS hF
 clear hF
 refine wp_cond_false (hK.ew 14) (wp_skip ?_)
 refine then_n (wp_seq ?_)
 refine wq hS hG hK (fun p5=>[.l 16 (.agg #[.bool s,.slice a1 n1 c1,.slice a2 n2 c2,.bool t,.slice a3 n3 c3,.slice a4 n4 c4]) 2 0,.c (some 17) (cV (.bool false))]) (fun p5=>[(2,pT (p1 0).N 0),(3,pT (p1 1).N 0),(4,.int .i64 0),(5,.int .i64 0),(6,pT (p2 3).N 0),(7,.int .i64 0),(17,.bool false)]) (fun p5=>?_) (fun p5 W5 T hF hK=>?_)
 ·refine okl ?_
  refine okc (fun W cx=>as_v (unhide HS _ cx.fr)) ?_
  exact ok_nil
 obtain ⟨hS,hG⟩:=SymF.fg hS hF
 clear hF
 refine wp_cond_false (hK.ew 17) (wp_skip ?_)
 refine then_n (wp_seq ?_)
 refine wq hS hG hK (fun p6=>[.v 18 (pT (p1 0).N 0),.l 19 (.bool s) 0 0,.v 20 (pT (p1 1).N 0),.l 21 (.bool t) 1 0,.v 22 (.bool true)]) (fun p6=>[(2,pT (p1 0).N 0),(3,pT (p1 1).N 0),(4,.int .i64 0),(5,.int .i64 0),(6,pT (p2 3).N 0),(7,.int .i64 0),(22,.bool true)]) (fun p6=>?_) (fun p6 W6 T hF hK=>?_)
 ·refine okv ?_
  refine okl ?_
  refine okv ?_
  refine okl ?_
  refine okvb (hst) ?_
  exact ok_nil
 obtain ⟨hS,hG⟩:=SymF.fg hS hF
 clear hF
 refine wp_cond_true (hK.ew 22) ?_
 refine wq hS hG hK (fun p7=>[.v 23 (pT (p1 1).N 0),.l 24 (.bool t) 1 0,.c (some 25) (cV (.int .i64 (if t then 1 else -1))),.v 4 (.int .i64 (if t then 1 else -1)),.v 5 (.int .i64 0)]) (fun p7=>[(2,pT (p1 0).N 0),(4,.int .i64 (if t then 1 else -1)),(5,.int .i64 0),(6,pT (p2 3).N 0),(7,.int .i64 0)]) (fun p7=>?_) (fun p7 W7 T hF hK=>?_)
 ·refine okv ?_
  refine okl ?_
  refine okc (fun W cx=>as_v (ysign t _)) ?_
  iterate 2 refine okv ?_
  exact ok_nil
 obtain ⟨hS,hG⟩:=SymF.fg hS hF
 clear hF
 refine wp_ret ?_
 refine then_r ?_
 exact sym_end hS hK (.tuple #[.int .i64 (if t then 1 else -1),.int .i64 0]) [] [] (by kernel_rfl) (by kernel_rfl) ⟨rfl,hS.fr⟩
theorem ycmp_far (s f:Bool) (a1 a2 a3 a4:Option Addr) (n1 n2 n3 n4 c1 c2 c3 c4:Nat) (w:World) (HC:Hid (∀ W:World,Below w.heap.size w W→Calls Tryz.prog 37 #[.agg #[.bool s,.slice a1 n1 c1,.slice a2 n2 c2,.bool s,.slice a3 n3 c3,.slice a4 n4 c4]] W fun e w'=>e = .returned (.int .i64 0)∧Below W.heap.size W w')) (HS:Hid (∀ W:World,Below w.heap.size w W→Calls Tryz.prog 38 #[.agg #[.bool s,.slice a1 n1 c1,.slice a2 n2 c2,.bool s,.slice a3 n3 c3,.slice a4 n4 c4]] W fun e w'=>e = .returned (.bool false)∧Below W.heap.size W w')) (HF:Hid (∀ W:World,Below w.heap.size w W→Calls Tryz.prog 40 #[.agg #[.bool s,.slice a1 n1 c1,.slice a2 n2 c2,.bool s,.slice a3 n3 c3,.slice a4 n4 c4]] W fun e w'=>e = .returned (.bool f)∧Below W.heap.size W w')) :
  Calls Tryz.prog 11 #[.agg #[.bool s,.slice a1 n1 c1,.slice a2 n2 c2],.agg #[.bool s,.slice a3 n3 c3,.slice a4 n4 c4]] w fun en w'=>en = .returned (.tuple #[.int .i64 (if (f != s) then 1 else -1),.int .i64 0])∧Below w.heap.size w w':=by
 refine calls_sym Tryz.func11 rfl (by kernel_rfl) fun T hK=>?_
 replace hK:Kn T _ [(0,.agg #[.bool s,.slice a1 n1 c1,.slice a2 n2 c2]),(1,.agg #[.bool s,.slice a3 n3 c3,.slice a4 n4 c4])]:=hK
 have hS:=Fb.begin w
 have hG:GsAt [] w:=trivial
 refine wq hS hG hK (fun p1=>[.n 2 #[.bool s,.slice a1 n1 c1,.slice a2 n2 c2] 29,.n 3 #[.bool s,.slice a3 n3 c3,.slice a4 n4 c4] 29,.v 4 (.int .i64 0),.v 5 (.int .i64 0)]) (fun p1=>[(2,pT (p1 0).N 0),(3,pT (p1 1).N 0),(4,.int .i64 0),(5,.int .i64 0)]) (fun p1=>?_) (fun p1 W1 T hF hK=>?_)
 ·iterate 2 refine okn ?_
  iterate 2 refine okv ?_
  exact ok_nil
 replace hS:=SymF.fc hS hF [1000,1001] [⟨(p1 0).N,#[.bool s,.slice a1 n1 c1,.slice a2 n2 c2],29,true⟩,⟨(p1 1).N,#[.bool s,.slice a3 n3 c3,.slice a4 n4 c4],29,true⟩]
 replace hG:=hF.gx
 clear hF
 refine wq hS hG hK (fun p2=>[.l 8 (.agg #[.bool s,.slice a1 n1 c1,.slice a2 n2 c2]) 0 0,.l 9 (.agg #[.bool s,.slice a3 n3 c3,.slice a4 n4 c4]) 1 0,.v 10 (.agg #[.bool s,.slice a1 n1 c1,.slice a2 n2 c2,.bool s,.slice a3 n3 c3,.slice a4 n4 c4]),.n 6 #[.bool false,.slice none 0 0,.slice none 0 0,.bool false,.slice none 0 0,.slice none 0 0] 78,.p 1003 0 [.bool s,.slice a1 n1 c1,.slice a2 n2 c2,.bool s,.slice a3 n3 c3,.slice a4 n4 c4]]) (fun p2=>[(2,pT (p1 0).N 0),(3,pT (p1 1).N 0),(4,.int .i64 0),(5,.int .i64 0),(6,pT (p2 3).N 0)]) (fun p2=>?_) (fun p2 W2 T hF hK=>?_)
 ·iterate 2 refine okl ?_
  refine okv ?_
  refine okn ?_
  refine okp ?_
  exact ok_nil
 replace hS:=SymF.fc hS hF [0,1,1003] [⟨(p1 0).N,#[.bool s,.slice a1 n1 c1,.slice a2 n2 c2],29,true⟩,⟨(p1 1).N,#[.bool s,.slice a3 n3 c3,.slice a4 n4 c4],29,true⟩,⟨(p2 3).N,#[.bool s,.slice a1 n1 c1,.slice a2 n2 c2,.bool s,.slice a3 n3 c3,.slice a4 n4 c4],78,true⟩]
 replace hG:=hF.gx
 clear hF
 refine wp_seq ?_
 refine wq hS hG hK (fun p3=>[.l 11 (.agg #[.bool s,.slice a1 n1 c1,.slice a2 n2 c2,.bool s,.slice a3 n3 c3,.slice a4 n4 c4]) 2 0,.c (some 12) (cV (.int .i64 0)),.v 7 (.int .i64 0)]) (fun p3=>[(2,pT (p1 0).N 0),(3,pT (p1 1).N 0),(4,.int .i64 0),(5,.int .i64 0),(6,pT (p2 3).N 0),(7,.int .i64 0)]) (fun p3=>?_) (fun p3 W3 T hF hK=>?_)
 ·refine okl ?_
  refine okc (fun W cx=>as_v (unhide HC _ cx.fr)) ?_
  refine okv ?_
  exact ok_nil
 obtain ⟨hS,hG⟩:=SymF.fg hS hF
 clear hF
 refine wq hS hG hK (fun p4=>[.v 13 (.int .i64 0),.v 14 (.bool false)]) (fun p4=>[(2,pT (p1 0).N 0),(3,pT (p1 1).N 0),(4,.int .i64 0),(5,.int .i64 0),(6,pT (p2 3).N 0),(7,.int .i64 0),(14,.bool false)]) (fun p4=>?_) (fun p4 W4 T hF hK=>?_)
 ·iterate 2 refine okv ?_
  exact ok_nil
 obtain ⟨hS,hG⟩:=SymF.fg hS hF
 clear hF
 refine wp_cond_false (hK.ew 14) (wp_skip ?_)
 refine then_n (wp_seq ?_)
 refine wq hS hG hK (fun p5=>[.l 16 (.agg #[.bool s,.slice a1 n1 c1,.slice a2 n2 c2,.bool s,.slice a3 n3 c3,.slice a4 n4 c4]) 2 0,.c (some 17) (cV (.bool false))]) (fun p5=>[(2,pT (p1 0).N 0),(3,pT (p1 1).N 0),(4,.int .i64 0),(5,.int .i64 0),(6,pT (p2 3).N 0),(7,.int .i64 0),(17,.bool false)]) (fun p5=>?_) (fun p5 W5 T hF hK=>?_)
 ·refine okl ?_
  refine okc (fun W cx=>as_v (unhide HS _ cx.fr)) ?_
  exact ok_nil
 obtain ⟨hS,hG⟩:=SymF.fg hS hF
 clear hF
 refine wp_cond_false (hK.ew 17) (wp_skip ?_)
 refine then_n (wp_seq ?_)
 refine wq hS hG hK (fun p6=>[.v 18 (pT (p1 0).N 0),.l 19 (.bool s) 0 0,.v 20 (pT (p1 1).N 0),.l 21 (.bool s) 1 0,.v 22 (.bool false)]) (fun p6=>[(2,pT (p1 0).N 0),(3,pT (p1 1).N 0),(4,.int .i64 0),(5,.int .i64 0),(6,pT (p2 3).N 0),(7,.int .i64 0),(22,.bool false)]) (fun p6=>?_) (fun p6 W6 T hF hK=>?_)
 ·refine okv ?_
  refine okl ?_
  refine okv ?_
  refine okl ?_
  refine okvb (bne_self_eq_false s) ?_
  exact ok_nil
 obtain ⟨hS,hG⟩:=SymF.fg hS hF
 clear hF
 refine wp_cond_false (hK.ew 22) (wp_skip (then_n ?_))
 refine wq hS hG hK (fun p7=>[.l 26 (.agg #[.bool s,.slice a1 n1 c1,.slice a2 n2 c2,.bool s,.slice a3 n3 c3,.slice a4 n4 c4]) 2 0,.c (some 27) (cV (.bool f)),.v 28 (pT (p1 0).N 0),.l 29 (.bool s) 0 0,.v 30 (.bool (f != s)),.c (some 31) (cV (.int .i64 (if (f != s) then 1 else -1))),.v 4 (.int .i64 (if (f != s) then 1 else -1)),.v 5 (.int .i64 0)]) (fun p7=>[(3,pT (p1 1).N 0),(4,.int .i64 (if (f != s) then 1 else -1)),(5,.int .i64 0),(7,.int .i64 0)]) (fun p7=>?_) (fun p7 W7 T hF hK=>?_)
 ·refine okl ?_
  refine okc (fun W cx=>as_v (unhide HF _ cx.fr)) ?_
  refine okv ?_
  refine okl ?_
  refine okv ?_
  refine okc (fun W cx=>as_v (ysign (f != s) _)) ?_
  iterate 2 refine okv ?_
  exact ok_nil
 obtain ⟨hS,hG⟩:=SymF.fg hS hF
 clear hF
 refine wp_ret ?_
 exact sym_end hS hK (.tuple #[.int .i64 (if (f != s) then 1 else -1),.int .i64 0]) [] [] (by kernel_rfl) (by kernel_rfl) ⟨rfl,hS.fr⟩
theorem rcmp_ft (a1 a2 a3 a4:Option Addr) (n1 n2 n3 n4 c1 c2 c3 c4:Nat) (w:World) (HC:Hid (∀ W:World,Below w.heap.size w W→Calls Tryz.prog 37 #[.agg #[.bool false,.slice a1 n1 c1,.slice a2 n2 c2,.bool true,.slice a3 n3 c3,.slice a4 n4 c4]] W fun e w'=>e = .returned (.int .i64 0)∧Below W.heap.size W w')) (HS:Hid (∀ W:World,Below w.heap.size w W→Calls Tryz.prog 38 #[.agg #[.bool false,.slice a1 n1 c1,.slice a2 n2 c2,.bool true,.slice a3 n3 c3,.slice a4 n4 c4]] W fun e w'=>e = .returned (.bool false)∧Below W.heap.size W w')):Calls Tryz.prog 11 #[.agg #[.bool false,.slice a1 n1 c1,.slice a2 n2 c2],.agg #[.bool true,.slice a3 n3 c3,.slice a4 n4 c4]] w fun en w'=>en = .returned (.tuple #[.int .i64 1,.int .i64 0])∧Below w.heap.size w w':=ycmp_ne false true a1 a2 a3 a4 n1 n2 n3 n4 c1 c2 c3 c4 w HC HS rfl
theorem rcmp_tf (a1 a2 a3 a4:Option Addr) (n1 n2 n3 n4 c1 c2 c3 c4:Nat) (w:World) (HC:Hid (∀ W:World,Below w.heap.size w W→Calls Tryz.prog 37 #[.agg #[.bool true,.slice a1 n1 c1,.slice a2 n2 c2,.bool false,.slice a3 n3 c3,.slice a4 n4 c4]] W fun e w'=>e = .returned (.int .i64 0)∧Below W.heap.size W w')) (HS:Hid (∀ W:World,Below w.heap.size w W→Calls Tryz.prog 38 #[.agg #[.bool true,.slice a1 n1 c1,.slice a2 n2 c2,.bool false,.slice a3 n3 c3,.slice a4 n4 c4]] W fun e w'=>e = .returned (.bool false)∧Below W.heap.size W w')):Calls Tryz.prog 11 #[.agg #[.bool true,.slice a1 n1 c1,.slice a2 n2 c2],.agg #[.bool false,.slice a3 n3 c3,.slice a4 n4 c4]] w fun en w'=>en = .returned (.tuple #[.int .i64 (-1),.int .i64 0])∧Below w.heap.size w w':=ycmp_ne true false a1 a2 a3 a4 n1 n2 n3 n4 c1 c2 c3 c4 w HC HS rfl
theorem rcmp_fft (a1 a2 a3 a4:Option Addr) (n1 n2 n3 n4 c1 c2 c3 c4:Nat) (w:World) (HC:Hid (∀ W:World,Below w.heap.size w W→Calls Tryz.prog 37 #[.agg #[.bool false,.slice a1 n1 c1,.slice a2 n2 c2,.bool false,.slice a3 n3 c3,.slice a4 n4 c4]] W fun e w'=>e = .returned (.int .i64 0)∧Below W.heap.size W w')) (HS:Hid (∀ W:World,Below w.heap.size w W→Calls Tryz.prog 38 #[.agg #[.bool false,.slice a1 n1 c1,.slice a2 n2 c2,.bool false,.slice a3 n3 c3,.slice a4 n4 c4]] W fun e w'=>e = .returned (.bool false)∧Below W.heap.size W w')) (HF:Hid (∀ W:World,Below w.heap.size w W→Calls Tryz.prog 40 #[.agg #[.bool false,.slice a1 n1 c1,.slice a2 n2 c2,.bool false,.slice a3 n3 c3,.slice a4 n4 c4]] W fun e w'=>e = .returned (.bool true)∧Below W.heap.size W w')):Calls Tryz.prog 11 #[.agg #[.bool false,.slice a1 n1 c1,.slice a2 n2 c2],.agg #[.bool false,.slice a3 n3 c3,.slice a4 n4 c4]] w fun en w'=>en = .returned (.tuple #[.int .i64 1,.int .i64 0])∧Below w.heap.size w w':=ycmp_far false true a1 a2 a3 a4 n1 n2 n3 n4 c1 c2 c3 c4 w HC HS HF
theorem rcmp_fff (a1 a2 a3 a4:Option Addr) (n1 n2 n3 n4 c1 c2 c3 c4:Nat) (w:World) (HC:Hid (∀ W:World,Below w.heap.size w W→Calls Tryz.prog 37 #[.agg #[.bool false,.slice a1 n1 c1,.slice a2 n2 c2,.bool false,.slice a3 n3 c3,.slice a4 n4 c4]] W fun e w'=>e = .returned (.int .i64 0)∧Below W.heap.size W w')) (HS:Hid (∀ W:World,Below w.heap.size w W→Calls Tryz.prog 38 #[.agg #[.bool false,.slice a1 n1 c1,.slice a2 n2 c2,.bool false,.slice a3 n3 c3,.slice a4 n4 c4]] W fun e w'=>e = .returned (.bool false)∧Below W.heap.size W w')) (HF:Hid (∀ W:World,Below w.heap.size w W→Calls Tryz.prog 40 #[.agg #[.bool false,.slice a1 n1 c1,.slice a2 n2 c2,.bool false,.slice a3 n3 c3,.slice a4 n4 c4]] W fun e w'=>e = .returned (.bool false)∧Below W.heap.size W w')):Calls Tryz.prog 11 #[.agg #[.bool false,.slice a1 n1 c1,.slice a2 n2 c2],.agg #[.bool false,.slice a3 n3 c3,.slice a4 n4 c4]] w fun en w'=>en = .returned (.tuple #[.int .i64 (-1),.int .i64 0])∧Below w.heap.size w w':=ycmp_far false false a1 a2 a3 a4 n1 n2 n3 n4 c1 c2 c3 c4 w HC HS HF
theorem rcmp_ttt (a1 a2 a3 a4:Option Addr) (n1 n2 n3 n4 c1 c2 c3 c4:Nat) (w:World) (HC:Hid (∀ W:World,Below w.heap.size w W→Calls Tryz.prog 37 #[.agg #[.bool true,.slice a1 n1 c1,.slice a2 n2 c2,.bool true,.slice a3 n3 c3,.slice a4 n4 c4]] W fun e w'=>e = .returned (.int .i64 0)∧Below W.heap.size W w')) (HS:Hid (∀ W:World,Below w.heap.size w W→Calls Tryz.prog 38 #[.agg #[.bool true,.slice a1 n1 c1,.slice a2 n2 c2,.bool true,.slice a3 n3 c3,.slice a4 n4 c4]] W fun e w'=>e = .returned (.bool false)∧Below W.heap.size W w')) (HF:Hid (∀ W:World,Below w.heap.size w W→Calls Tryz.prog 40 #[.agg #[.bool true,.slice a1 n1 c1,.slice a2 n2 c2,.bool true,.slice a3 n3 c3,.slice a4 n4 c4]] W fun e w'=>e = .returned (.bool true)∧Below W.heap.size W w')):Calls Tryz.prog 11 #[.agg #[.bool true,.slice a1 n1 c1,.slice a2 n2 c2],.agg #[.bool true,.slice a3 n3 c3,.slice a4 n4 c4]] w fun en w'=>en = .returned (.tuple #[.int .i64 (-1),.int .i64 0])∧Below w.heap.size w w':=ycmp_far true true a1 a2 a3 a4 n1 n2 n3 n4 c1 c2 c3 c4 w HC HS HF
theorem rcmp_ttf (a1 a2 a3 a4:Option Addr) (n1 n2 n3 n4 c1 c2 c3 c4:Nat) (w:World) (HC:Hid (∀ W:World,Below w.heap.size w W→Calls Tryz.prog 37 #[.agg #[.bool true,.slice a1 n1 c1,.slice a2 n2 c2,.bool true,.slice a3 n3 c3,.slice a4 n4 c4]] W fun e w'=>e = .returned (.int .i64 0)∧Below W.heap.size W w')) (HS:Hid (∀ W:World,Below w.heap.size w W→Calls Tryz.prog 38 #[.agg #[.bool true,.slice a1 n1 c1,.slice a2 n2 c2,.bool true,.slice a3 n3 c3,.slice a4 n4 c4]] W fun e w'=>e = .returned (.bool false)∧Below W.heap.size W w')) (HF:Hid (∀ W:World,Below w.heap.size w W→Calls Tryz.prog 40 #[.agg #[.bool true,.slice a1 n1 c1,.slice a2 n2 c2,.bool true,.slice a3 n3 c3,.slice a4 n4 c4]] W fun e w'=>e = .returned (.bool false)∧Below W.heap.size W w')):Calls Tryz.prog 11 #[.agg #[.bool true,.slice a1 n1 c1,.slice a2 n2 c2],.agg #[.bool true,.slice a3 n3 c3,.slice a4 n4 c4]] w fun en w'=>en = .returned (.tuple #[.int .i64 1,.int .i64 0])∧Below w.heap.size w w':=ycmp_far true false a1 a2 a3 a4 n1 n2 n3 n4 c1 c2 c3 c4 w HC HS HF
end Go.Proofs.YtaidedkpfnidpaaGreatDoor
