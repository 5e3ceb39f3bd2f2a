/- Of what DecExactRow stands on: RzSpl RzTog. -/
import Derived.Test.YtpmmapoabbpaiaaGreatPba
namespace Go.Proofs.YtpmmapoabbpaiaaGreat
open Go.RowKit
set_option maxHeartbeats 4000000
set_option maxRecDepth 20000
theorem znou_t (w:World) (a:Option Addr) (n c:Nat) (hn:n = 0) :
  Calls Tryz.prog 68 #[.agg #[.slice a n c]] w fun en w'=>en = .returned (.bool true)∧Below w.heap.size w w':=by
 refine calls_sym Tryz.func68 rfl (by kernel_rfl) fun T hK=>?_
 replace hK:Kn T _ [(0,.agg #[.slice a n c])]:=hK
 have hS:=Fb.begin w
 have hG:GsAt [] w:=trivial
 refine wq hS hG hK (fun p1=>[.n 1 #[.slice a n c] 26,.v 2 (.bool false)]) (fun p1=>[(1,pT (p1 0).N 0),(2,.bool false)]) (fun p1=>?_) (fun p1 W1 T hF hK=>?_)
 ·refine okn ?_
  refine okv ?_
  exact ok_nil
 replace hS:=SymF.fc hS hF [1000] [⟨(p1 0).N,#[.slice a n c],26,true⟩]
 replace hG:=hF.gx
 clear hF
 refine wq hS hG hK (fun p2=>[.v 3 (pT (p1 0).N 0),.l 4 (.slice a n c) 0 0,.v 5 (.int .i64 (n:Int)),.v 6 (.bool true),.v 2 (.bool true)]) (fun p2=>[(2,.bool true)]) (fun p2=>?_) (fun p2 W2 T hF hK=>?_)
 ·refine okv ?_
  refine okl ?_
  refine okv ?_
  refine okvb (beq_iff_eq.2 (show (n:Int) = 0 by omega)) ?_
  refine okv ?_
  exact ok_nil
 replace hS:=SymF.fc hS hF [] []
 replace hG:=hF.gx
 clear hF
 refine wp_ret ?_
 exact sym_end hS hK (.bool true) [] [] (by kernel_rfl) (by kernel_rfl) ⟨rfl,hS.fr⟩
theorem znou_f (w:World) (a:Option Addr) (n c:Nat) (hn:n≠0) :
  Calls Tryz.prog 68 #[.agg #[.slice a n c]] w fun en w'=>en = .returned (.bool false)∧Below w.heap.size w w':=by
 refine calls_sym Tryz.func68 rfl (by kernel_rfl) fun T hK=>?_
 replace hK:Kn T _ [(0,.agg #[.slice a n c])]:=hK
 have hS:=Fb.begin w
 have hG:GsAt [] w:=trivial
 refine wq hS hG hK (fun p1=>[.n 1 #[.slice a n c] 26,.v 2 (.bool false)]) (fun p1=>[(1,pT (p1 0).N 0),(2,.bool false)]) (fun p1=>?_) (fun p1 W1 T hF hK=>?_)
 ·refine okn ?_
  refine okv ?_
  exact ok_nil
 replace hS:=SymF.fc hS hF [1000] [⟨(p1 0).N,#[.slice a n c],26,true⟩]
 replace hG:=hF.gx
 clear hF
 refine wq hS hG hK (fun p2=>[.v 3 (pT (p1 0).N 0),.l 4 (.slice a n c) 0 0,.v 5 (.int .i64 (n:Int)),.v 6 (.bool false),.v 2 (.bool false)]) (fun p2=>[(2,.bool false)]) (fun p2=>?_) (fun p2 W2 T hF hK=>?_)
 ·refine okv ?_
  refine okl ?_
  refine okv ?_
  refine okvb (beq_false_of_ne (show (n:Int)≠0 by omega)) ?_
  refine okv ?_
  exact ok_nil
 replace hS:=SymF.fc hS hF [] []
 replace hG:=hF.gx
 clear hF
 refine wp_ret ?_
 exact sym_end hS hK (.bool false) [] [] (by kernel_rfl) (by kernel_rfl) ⟨rfl,hS.fr⟩
theorem znought (a:Option Addr) (n cap:Nat) (w:World) (b:Bool) (h:decide (n = 0) = b):Calls Tryz.prog 68 #[.agg #[.slice a n cap]] w fun e w'=>e = .returned (.bool b)∧Below w.heap.size w w':=by
 subst h
 by_cases hn:n = 0
 ·rw [decide_eq_true hn]; exact znou_t w a n cap hn
 ·rw [decide_eq_false hn]; exact znou_f w a n cap hn
theorem Num.zdec {w:World} {a:Option Addr} {n m:Nat} (h:Num w a n m):decide (n = 0) = decide (m = 0):=by
 by_cases hm:m = 0
 ·rw [decide_eq_true hm,decide_eq_true (h.zero.2 hm)]
 ·rw [decide_eq_false hm,decide_eq_false fun e=>hm (h.zero.1 e)]
theorem zspl_s (w:World) (p:Nat) (a1 a2 a3 a4:Option Addr) (n1 n2 n3 n4 c1 c2 c3 c4 m1 d1 m2 d2:Nat) (s b:Bool) (wa ra wb rb g ta tb q1 le q2 ri rj di lo e dn pa br pb bs:Nat) (hR:Rz w p 0) (h1:Num w a1 n1 m1) (h2:Num w a2 n2 d1) (h3:Num w a3 n3 m2) (h4:Num w a4 n4 d2) (H1:Hid (WDiv p m1 d1 wa ra)) (H2:Hid (WDiv p m2 d2 wb rb)) (H3:Hid (WTwo 69 p d1 d2 g)) (H4:Hid (WTwo 71 p d2 g ta)) (H5:Hid (WTwo 71 p d1 g tb)) (H6:Hid (WMo p ra ta g q1 le)) (H7:Hid (WMo p rb tb g q2 ri)) (H8:Hid (WTwo 116 p g ri rj)) (H9:Hid (WTwo 132 p le rj di)) (HA:Hid (WTwo 69 p di g lo)) (HB:Hid (WTwo 71 p d2 lo e)) (HC:Hid (WTwo 89 p tb e dn)) (HD:Hid (WMo p ra ta lo pa br)) (HE:Hid (WMo p rb tb lo pb bs)) (hz:decide (br = 0) = b)  :
  Calls Tryz.prog 113 #[.pointer (some ⟨p,0,none⟩),.agg #[.bool s,.slice a1 n1 c1,.slice a2 n2 c2,.bool s,.slice a3 n3 c3,.slice a4 n4 c4]] w fun en w'=>(∃ A N C A' N' C' A2 N2 C2 A3 N3 C3 A4 N4 C4,en = .returned (.agg #[.slice A N C,.slice A' N' C',.slice A2 N2 C2,.slice A3 N3 C3,.slice A4 N4 C4,.bool (!b)])∧Mine w' w.heap.size A N C wa∧Mine w' w.heap.size A' N' C' wb∧Mine w' w.heap.size A2 N2 C2 pa∧Mine w' w.heap.size A3 N3 C3 pb∧Mine w' w.heap.size A4 N4 C4 dn)∧Below w.heap.size w w':=by
 obtain ⟨cs9,t9_,hp,hp0⟩:=hR
 refine calls_sym Tryz.func113 rfl (by kernel_rfl) fun T hK=>?_
 replace hK:Kn T _ [(0,.pointer (some ⟨p,0,none⟩)),(1,.agg #[.bool s,.slice a1 n1 c1,.slice a2 n2 c2,.bool s,.slice a3 n3 c3,.slice a4 n4 c4])]:=hK
 have hS:=Fb.other hp
 have hG:GsAt [gN a1 n1 m1,gN a2 n2 d1,gN a3 n3 m2,gN a4 n4 d2] w:=⟨h1,h2,h3,h4,trivial⟩
 refine wq hS hG hK (fun p1=>[.n 3 #[.bool s,.slice a1 n1 c1,.slice a2 n2 c2,.bool s,.slice a3 n3 c3,.slice a4 n4 c4] 86,.n 4 #[.slice none 0 0,.slice none 0 0,.slice none 0 0,.slice none 0 0,.slice none 0 0,.bool false] 147]) (fun p1=>[(0,.pointer (some ⟨p,0,none⟩)),(3,pT (p1 0).N 0),(4,pT (p1 1).N 0)]) (fun p1=>?_) (fun p1 W1 T hF hK=>?_)
 ·iterate 2 refine okn ?_
  exact ok_nil
 replace hS:=SymF.fc hS hF [0,1000,1001] [⟨p,cs9,t9_,false⟩,⟨(p1 0).N,#[.bool s,.slice a1 n1 c1,.slice a2 n2 c2,.bool s,.slice a3 n3 c3,.slice a4 n4 c4],86,true⟩,⟨(p1 1).N,#[.slice none 0 0,.slice none 0 0,.slice none 0 0,.slice none 0 0,.slice none 0 0,.bool false],147,true⟩]
 replace hG:=hF.gx
 clear hF
 have z1:=hS.fr.size
 refine wq hS hG hK (fun p2=>[.v 23 (.pointer (some ⟨p,0,none⟩)),.v 24 (pT (p1 0).N 0),.v 25 (pT (p1 0).N 1),.l 26 (.agg #[.slice a1 n1 c1]) 1 1,.v 27 (pT (p1 0).N 0),.v 28 (pT (p1 0).N 2),.l 29 (.agg #[.slice a2 n2 c2]) 1 2,.c (some 30) (cH W1.heap.size wa ra fun x9 y9=>.tuple #[.agg #[x9],.agg #[y9]]),.v 22 (.tuple #[.agg #[.slice (p2 7).A (p2 7).N (p2 7).C],.agg #[.slice (p2 7).A' (p2 7).N' (p2 7).C']]),.v 31 (.agg #[.slice (p2 7).A (p2 7).N (p2 7).C]),.v 32 (.agg #[.slice (p2 7).A' (p2 7).N' (p2 7).C']),.n 5 #[.slice none 0 0] 26,.n 6 #[.slice none 0 0] 26,.p 1011 0 [.slice (p2 7).A (p2 7).N (p2 7).C],.p 1012 0 [.slice (p2 7).A' (p2 7).N' (p2 7).C']]) (fun p2=>[(0,.pointer (some ⟨p,0,none⟩)),(3,pT (p1 0).N 0),(4,pT (p1 1).N 0),(5,pT (p2 11).N 0),(6,pT (p2 12).N 0)]) (fun p2=>?_) (fun p2 W2 T hF hK=>?_)
 ·iterate 3 refine okv ?_
  refine okl ?_
  iterate 2 refine okv ?_
  refine okl ?_
  refine okc (fun W cx=>as_h cx.hb (unhide H1 _ _ _ c1 _ _ c2 ⟨_,_,cx.B 0 _ rfl (by kernel_rfl) (by kernel_rfl),hp0⟩ (cx.G.1) (cx.G.2.1))) ?_
  iterate 3 refine okv ?_
  iterate 2 refine okn ?_
  iterate 2 refine okp ?_
  exact ok_nil
 replace hS:=SymF.fc hS hF [0,1,2,1011,1012] [⟨p,cs9,t9_,false⟩,⟨(p1 0).N,#[.bool s,.slice a1 n1 c1,.slice a2 n2 c2,.bool s,.slice a3 n3 c3,.slice a4 n4 c4],86,true⟩,⟨(p1 1).N,#[.slice none 0 0,.slice none 0 0,.slice none 0 0,.slice none 0 0,.slice none 0 0,.bool false],147,true⟩,⟨(p2 11).N,#[.slice (p2 7).A (p2 7).N (p2 7).C],26,true⟩,⟨(p2 12).N,#[.slice (p2 7).A' (p2 7).N' (p2 7).C'],26,true⟩]
 replace hG:GsAt (gM W1.heap.size (p2 7).A (p2 7).N (p2 7).C wa :: gM W1.heap.size (p2 7).A' (p2 7).N' (p2 7).C' ra :: _) W2:=⟨And.left (hF.fx 7),And.right (hF.fx 7),hF.gx⟩
 clear hF
 have z2:=hS.fr.size
 refine wq hS hG hK (fun p3=>[.v 34 (.pointer (some ⟨p,0,none⟩)),.v 35 (pT (p1 0).N 3),.v 36 (pT (p1 0).N 4),.l 37 (.agg #[.slice a3 n3 c3]) 1 4,.v 38 (pT (p1 0).N 3),.v 39 (pT (p1 0).N 5),.l 40 (.agg #[.slice a4 n4 c4]) 1 5,.c (some 41) (cH W2.heap.size wb rb fun x9 y9=>.tuple #[.agg #[x9],.agg #[y9]]),.v 33 (.tuple #[.agg #[.slice (p3 7).A (p3 7).N (p3 7).C],.agg #[.slice (p3 7).A' (p3 7).N' (p3 7).C']]),.v 42 (.agg #[.slice (p3 7).A (p3 7).N (p3 7).C]),.v 43 (.agg #[.slice (p3 7).A' (p3 7).N' (p3 7).C']),.n 7 #[.slice none 0 0] 26,.n 8 #[.slice none 0 0] 26,.p 1011 0 [.slice (p3 7).A (p3 7).N (p3 7).C],.p 1012 0 [.slice (p3 7).A' (p3 7).N' (p3 7).C']]) (fun p3=>[(0,.pointer (some ⟨p,0,none⟩)),(3,pT (p1 0).N 0),(4,pT (p1 1).N 0),(5,pT (p2 11).N 0),(6,pT (p2 12).N 0),(7,pT (p3 11).N 0),(8,pT (p3 12).N 0)]) (fun p3=>?_) (fun p3 W3 T hF hK=>?_)
 ·iterate 3 refine okv ?_
  refine okl ?_
  iterate 2 refine okv ?_
  refine okl ?_
  refine okc (fun W cx=>as_h cx.hb (unhide H2 _ _ _ c3 _ _ c4 ⟨_,_,cx.B 0 _ rfl (by kernel_rfl) (by kernel_rfl),hp0⟩ (cx.G.2.2.2.2.1) (cx.G.2.2.2.2.2.1))) ?_
  iterate 3 refine okv ?_
  iterate 2 refine okn ?_
  iterate 2 refine okp ?_
  exact ok_nil
 replace hS:=SymF.fc hS hF [0,1,2,3,4,1011,1012] [⟨p,cs9,t9_,false⟩,⟨(p1 0).N,#[.bool s,.slice a1 n1 c1,.slice a2 n2 c2,.bool s,.slice a3 n3 c3,.slice a4 n4 c4],86,true⟩,⟨(p1 1).N,#[.slice none 0 0,.slice none 0 0,.slice none 0 0,.slice none 0 0,.slice none 0 0,.bool false],147,true⟩,⟨(p2 11).N,#[.slice (p2 7).A (p2 7).N (p2 7).C],26,true⟩,⟨(p2 12).N,#[.slice (p2 7).A' (p2 7).N' (p2 7).C'],26,true⟩,⟨(p3 11).N,#[.slice (p3 7).A (p3 7).N (p3 7).C],26,true⟩,⟨(p3 12).N,#[.slice (p3 7).A' (p3 7).N' (p3 7).C'],26,true⟩]
 replace hG:GsAt (gM W2.heap.size (p3 7).A (p3 7).N (p3 7).C wb :: gM W2.heap.size (p3 7).A' (p3 7).N' (p3 7).C' rb :: _) W3:=⟨And.left (hF.fx 7),And.right (hF.fx 7),hF.gx⟩
 clear hF
 refine wq hS hG hK (fun p4=>[.v 44 (.pointer (some ⟨p,0,none⟩)),.v 45 (pT (p1 0).N 0),.v 46 (pT (p1 0).N 2),.l 47 (.agg #[.slice a2 n2 c2]) 1 2,.v 48 (pT (p1 0).N 3),.v 49 (pT (p1 0).N 5),.l 50 (.agg #[.slice a4 n4 c4]) 1 5,.c (some 51) (cN W3.heap.size g),.n 9 #[.slice none 0 0] 26,.p 1008 0 [.slice (p4 7).A (p4 7).N (p4 7).C]]) (fun p4=>[(0,.pointer (some ⟨p,0,none⟩)),(3,pT (p1 0).N 0),(4,pT (p1 1).N 0),(5,pT (p2 11).N 0),(6,pT (p2 12).N 0),(7,pT (p3 11).N 0),(8,pT (p3 12).N 0),(9,pT (p4 8).N 0)]) (fun p4=>?_) (fun p4 W4 T hF hK=>?_)
 ·iterate 3 refine okv ?_
  refine okl ?_
  iterate 2 refine okv ?_
  refine okl ?_
  refine okc (fun W cx=>as_n cx.hb (unhide H3 _ _ _ c2 _ _ c4 ⟨_,_,cx.B 0 _ rfl (by kernel_rfl) (by kernel_rfl),hp0⟩ (cx.G.2.2.2.2.2.1) (cx.G.2.2.2.2.2.2.2.1))) ?_
  refine okn ?_
  refine okp ?_
  exact ok_nil
 replace hS:=SymF.fc hS hF [0,1,2,3,4,5,6,1008] [⟨p,cs9,t9_,false⟩,⟨(p1 0).N,#[.bool s,.slice a1 n1 c1,.slice a2 n2 c2,.bool s,.slice a3 n3 c3,.slice a4 n4 c4],86,true⟩,⟨(p1 1).N,#[.slice none 0 0,.slice none 0 0,.slice none 0 0,.slice none 0 0,.slice none 0 0,.bool false],147,true⟩,⟨(p2 11).N,#[.slice (p2 7).A (p2 7).N (p2 7).C],26,true⟩,⟨(p2 12).N,#[.slice (p2 7).A' (p2 7).N' (p2 7).C'],26,true⟩,⟨(p3 11).N,#[.slice (p3 7).A (p3 7).N (p3 7).C],26,true⟩,⟨(p3 12).N,#[.slice (p3 7).A' (p3 7).N' (p3 7).C'],26,true⟩,⟨(p4 8).N,#[.slice (p4 7).A (p4 7).N (p4 7).C],26,true⟩]
 replace hG:GsAt (gM W3.heap.size (p4 7).A (p4 7).N (p4 7).C g :: _) W4:=⟨hF.fx 7,hF.gx⟩
 clear hF
 refine wq hS hG hK (fun p5=>[.v 52 (.pointer (some ⟨p,0,none⟩)),.v 53 (pT (p1 0).N 3),.v 54 (pT (p1 0).N 5),.l 55 (.agg #[.slice a4 n4 c4]) 1 5,.l 56 (.agg #[.slice (p4 7).A (p4 7).N (p4 7).C]) 7 0,.c (some 57) (cN W4.heap.size ta),.v 58 (.pointer (some ⟨p,0,none⟩)),.v 59 (pT (p1 0).N 0),.v 60 (pT (p1 0).N 2),.l 61 (.agg #[.slice a2 n2 c2]) 1 2,.l 62 (.agg #[.slice (p4 7).A (p4 7).N (p4 7).C]) 7 0,.c (some 63) (cN W4.heap.size tb),.n 10 #[.slice none 0 0] 26,.n 11 #[.slice none 0 0] 26,.p 1012 0 [.slice (p5 5).A (p5 5).N (p5 5).C],.p 1013 0 [.slice (p5 11).A (p5 11).N (p5 11).C]]) (fun p5=>[(0,.pointer (some ⟨p,0,none⟩)),(3,pT (p1 0).N 0),(4,pT (p1 1).N 0),(5,pT (p2 11).N 0),(6,pT (p2 12).N 0),(7,pT (p3 11).N 0),(8,pT (p3 12).N 0),(9,pT (p4 8).N 0),(10,pT (p5 12).N 0),(11,pT (p5 13).N 0)]) (fun p5=>?_) (fun p5 W5 T hF hK=>?_)
 ·iterate 3 refine okv ?_
  iterate 2 refine okl ?_
  refine okc (fun W cx=>as_n cx.hb (unhide H4 _ _ _ c4 _ _ (p4 7).C ⟨_,_,cx.B 0 _ rfl (by kernel_rfl) (by kernel_rfl),hp0⟩ (cx.G.2.2.2.2.2.2.2.2.1) (Mine.num cx.G.1))) ?_
  iterate 3 refine okv ?_
  iterate 2 refine okl ?_
  refine okc (fun W cx=>as_n cx.hb (unhide H5 _ _ _ c2 _ _ (p4 7).C ⟨_,_,cx.B 0 _ rfl (by kernel_rfl) (by kernel_rfl),hp0⟩ (cx.G.2.2.2.2.2.2.1) (Mine.num cx.G.1))) ?_
  iterate 2 refine okn ?_
  iterate 2 refine okp ?_
  exact ok_nil
 replace hS:=SymF.fc hS hF [0,1,2,3,4,5,6,7,1012,1013] [⟨p,cs9,t9_,false⟩,⟨(p1 0).N,#[.bool s,.slice a1 n1 c1,.slice a2 n2 c2,.bool s,.slice a3 n3 c3,.slice a4 n4 c4],86,true⟩,⟨(p1 1).N,#[.slice none 0 0,.slice none 0 0,.slice none 0 0,.slice none 0 0,.slice none 0 0,.bool false],147,true⟩,⟨(p2 11).N,#[.slice (p2 7).A (p2 7).N (p2 7).C],26,true⟩,⟨(p2 12).N,#[.slice (p2 7).A' (p2 7).N' (p2 7).C'],26,true⟩,⟨(p3 11).N,#[.slice (p3 7).A (p3 7).N (p3 7).C],26,true⟩,⟨(p3 12).N,#[.slice (p3 7).A' (p3 7).N' (p3 7).C'],26,true⟩,⟨(p4 8).N,#[.slice (p4 7).A (p4 7).N (p4 7).C],26,true⟩,⟨(p5 12).N,#[.slice (p5 5).A (p5 5).N (p5 5).C],26,true⟩,⟨(p5 13).N,#[.slice (p5 11).A (p5 11).N (p5 11).C],26,true⟩]
 replace hG:GsAt (gM W4.heap.size (p5 5).A (p5 5).N (p5 5).C ta :: gM W4.heap.size (p5 11).A (p5 11).N (p5 11).C tb :: _) W5:=⟨hF.fx 5,hF.fx 11,hF.gx⟩
 clear hF
 refine wq hS hG hK (fun p6=>[.v 65 (.pointer (some ⟨p,0,none⟩)),.l 66 (.agg #[.slice (p2 7).A' (p2 7).N' (p2 7).C']) 4 0,.l 67 (.agg #[.slice (p5 5).A (p5 5).N (p5 5).C]) 8 0,.l 68 (.agg #[.slice (p4 7).A (p4 7).N (p4 7).C]) 7 0,.c (some 69) (cH W5.heap.size q1 le fun x9 y9=>.tuple #[.agg #[x9],.agg #[y9]]),.v 64 (.tuple #[.agg #[.slice (p6 4).A (p6 4).N (p6 4).C],.agg #[.slice (p6 4).A' (p6 4).N' (p6 4).C']]),.v 70 (.agg #[.slice (p6 4).A (p6 4).N (p6 4).C]),.v 71 (.agg #[.slice (p6 4).A' (p6 4).N' (p6 4).C']),.n 12 #[.slice none 0 0] 26,.n 13 #[.slice none 0 0] 26,.p 1008 0 [.slice (p6 4).A (p6 4).N (p6 4).C],.p 1009 0 [.slice (p6 4).A' (p6 4).N' (p6 4).C']]) (fun p6=>[(0,.pointer (some ⟨p,0,none⟩)),(3,pT (p1 0).N 0),(4,pT (p1 1).N 0),(5,pT (p2 11).N 0),(6,pT (p2 12).N 0),(7,pT (p3 11).N 0),(8,pT (p3 12).N 0),(9,pT (p4 8).N 0),(10,pT (p5 12).N 0),(11,pT (p5 13).N 0),(13,pT (p6 9).N 0)]) (fun p6=>?_) (fun p6 W6 T hF hK=>?_)
 ·refine okv ?_
  iterate 3 refine okl ?_
  refine okc (fun W cx=>as_h cx.hb (unhide H6 _ _ _ (p2 7).C' _ _ (p5 5).C _ _ (p4 7).C ⟨_,_,cx.B 0 _ rfl (by kernel_rfl) (by kernel_rfl),hp0⟩ (Mine.num cx.G.2.2.2.2.2.2.1) (Mine.num cx.G.1) (Mine.num cx.G.2.2.1))) ?_
  iterate 3 refine okv ?_
  iterate 2 refine okn ?_
  iterate 2 refine okp ?_
  exact ok_nil
 replace hS:=SymF.fc hS hF [0,1,2,3,4,5,6,7,8,9,1009] [⟨p,cs9,t9_,false⟩,⟨(p1 0).N,#[.bool s,.slice a1 n1 c1,.slice a2 n2 c2,.bool s,.slice a3 n3 c3,.slice a4 n4 c4],86,true⟩,⟨(p1 1).N,#[.slice none 0 0,.slice none 0 0,.slice none 0 0,.slice none 0 0,.slice none 0 0,.bool false],147,true⟩,⟨(p2 11).N,#[.slice (p2 7).A (p2 7).N (p2 7).C],26,true⟩,⟨(p2 12).N,#[.slice (p2 7).A' (p2 7).N' (p2 7).C'],26,true⟩,⟨(p3 11).N,#[.slice (p3 7).A (p3 7).N (p3 7).C],26,true⟩,⟨(p3 12).N,#[.slice (p3 7).A' (p3 7).N' (p3 7).C'],26,true⟩,⟨(p4 8).N,#[.slice (p4 7).A (p4 7).N (p4 7).C],26,true⟩,⟨(p5 12).N,#[.slice (p5 5).A (p5 5).N (p5 5).C],26,true⟩,⟨(p5 13).N,#[.slice (p5 11).A (p5 11).N (p5 11).C],26,true⟩,⟨(p6 9).N,#[.slice (p6 4).A' (p6 4).N' (p6 4).C'],26,true⟩]
 replace hG:GsAt (gM W5.heap.size (p6 4).A (p6 4).N (p6 4).C q1 :: gM W5.heap.size (p6 4).A' (p6 4).N' (p6 4).C' le :: _) W6:=⟨And.left (hF.fx 4),And.right (hF.fx 4),hF.gx⟩
 clear hF
 refine wq hS hG hK (fun p7=>[.v 73 (.pointer (some ⟨p,0,none⟩)),.l 74 (.agg #[.slice (p3 7).A' (p3 7).N' (p3 7).C']) 6 0,.l 75 (.agg #[.slice (p5 11).A (p5 11).N (p5 11).C]) 9 0,.l 76 (.agg #[.slice (p4 7).A (p4 7).N (p4 7).C]) 7 0,.c (some 77) (cH W6.heap.size q2 ri fun x9 y9=>.tuple #[.agg #[x9],.agg #[y9]]),.v 72 (.tuple #[.agg #[.slice (p7 4).A (p7 4).N (p7 4).C],.agg #[.slice (p7 4).A' (p7 4).N' (p7 4).C']]),.v 78 (.agg #[.slice (p7 4).A (p7 4).N (p7 4).C]),.v 79 (.agg #[.slice (p7 4).A' (p7 4).N' (p7 4).C']),.n 14 #[.slice none 0 0] 26,.n 15 #[.slice none 0 0] 26,.p 1008 0 [.slice (p7 4).A (p7 4).N (p7 4).C],.p 1009 0 [.slice (p7 4).A' (p7 4).N' (p7 4).C']]) (fun p7=>[(0,.pointer (some ⟨p,0,none⟩)),(3,pT (p1 0).N 0),(4,pT (p1 1).N 0),(5,pT (p2 11).N 0),(6,pT (p2 12).N 0),(7,pT (p3 11).N 0),(8,pT (p3 12).N 0),(9,pT (p4 8).N 0),(10,pT (p5 12).N 0),(11,pT (p5 13).N 0),(13,pT (p6 9).N 0),(15,pT (p7 9).N 0)]) (fun p7=>?_) (fun p7 W7 T hF hK=>?_)
 ·refine okv ?_
  iterate 3 refine okl ?_
  refine okc (fun W cx=>as_h cx.hb (unhide H7 _ _ _ (p3 7).C' _ _ (p5 11).C _ _ (p4 7).C ⟨_,_,cx.B 0 _ rfl (by kernel_rfl) (by kernel_rfl),hp0⟩ (Mine.num cx.G.2.2.2.2.2.2.1) (Mine.num cx.G.2.2.2.1) (Mine.num cx.G.2.2.2.2.1))) ?_
  iterate 3 refine okv ?_
  iterate 2 refine okn ?_
  iterate 2 refine okp ?_
  exact ok_nil
 replace hS:=SymF.fc hS hF [0,1,2,3,4,5,6,7,8,9,10,1009] [⟨p,cs9,t9_,false⟩,⟨(p1 0).N,#[.bool s,.slice a1 n1 c1,.slice a2 n2 c2,.bool s,.slice a3 n3 c3,.slice a4 n4 c4],86,true⟩,⟨(p1 1).N,#[.slice none 0 0,.slice none 0 0,.slice none 0 0,.slice none 0 0,.slice none 0 0,.bool false],147,true⟩,⟨(p2 11).N,#[.slice (p2 7).A (p2 7).N (p2 7).C],26,true⟩,⟨(p2 12).N,#[.slice (p2 7).A' (p2 7).N' (p2 7).C'],26,true⟩,⟨(p3 11).N,#[.slice (p3 7).A (p3 7).N (p3 7).C],26,true⟩,⟨(p3 12).N,#[.slice (p3 7).A' (p3 7).N' (p3 7).C'],26,true⟩,⟨(p4 8).N,#[.slice (p4 7).A (p4 7).N (p4 7).C],26,true⟩,⟨(p5 12).N,#[.slice (p5 5).A (p5 5).N (p5 5).C],26,true⟩,⟨(p5 13).N,#[.slice (p5 11).A (p5 11).N (p5 11).C],26,true⟩,⟨(p6 9).N,#[.slice (p6 4).A' (p6 4).N' (p6 4).C'],26,true⟩,⟨(p7 9).N,#[.slice (p7 4).A' (p7 4).N' (p7 4).C'],26,true⟩]
 replace hG:GsAt (gM W6.heap.size (p7 4).A (p7 4).N (p7 4).C q2 :: gM W6.heap.size (p7 4).A' (p7 4).N' (p7 4).C' ri :: _) W7:=⟨And.left (hF.fx 4),And.right (hF.fx 4),hF.gx⟩
 clear hF
 refine wp_seq ?_
 refine wq hS hG hK (fun p8=>[.v 80 (pT (p1 0).N 0),.v 81 (pT (p1 0).N 0),.l 82 (.bool s) 1 0,.v 83 (pT (p1 0).N 3),.v 84 (pT (p1 0).N 3),.l 85 (.bool s) 1 3,.v 86 (.bool true)]) (fun p8=>[(0,.pointer (some ⟨p,0,none⟩)),(3,pT (p1 0).N 0),(4,pT (p1 1).N 0),(5,pT (p2 11).N 0),(6,pT (p2 12).N 0),(7,pT (p3 11).N 0),(8,pT (p3 12).N 0),(9,pT (p4 8).N 0),(10,pT (p5 12).N 0),(11,pT (p5 13).N 0),(13,pT (p6 9).N 0),(15,pT (p7 9).N 0),(86,.bool true)]) (fun p8=>?_) (fun p8 W8 T hF hK=>?_)
 ·iterate 2 refine okv ?_
  refine okl ?_
  iterate 2 refine okv ?_
  refine okl ?_
  refine okvb (beq_self_eq_true s) ?_
  exact ok_nil
 obtain ⟨hS,hG⟩:=SymF.fg hS hF
 clear hF
 refine wp_cond_true (hK.ew 86) ?_
 refine wg hS hG hK (fun p9=>[.v 87 (.pointer (some ⟨p,0,none⟩)),.l 88 (.agg #[.slice (p4 7).A (p4 7).N (p4 7).C]) 7 0,.l 89 (.agg #[.slice (p7 4).A' (p7 4).N' (p7 4).C']) 11 0,.c (some 90) (cN W8.heap.size rj),.p 11 0 [.slice (p9 3).A (p9 3).N (p9 3).C]]) (fun p9=>[(0,.pointer (some ⟨p,0,none⟩)),(3,pT (p1 0).N 0),(4,pT (p1 1).N 0),(5,pT (p2 11).N 0),(6,pT (p2 12).N 0),(7,pT (p3 11).N 0),(8,pT (p3 12).N 0),(9,pT (p4 8).N 0),(10,pT (p5 12).N 0),(11,pT (p5 13).N 0),(13,pT (p6 9).N 0),(15,pT (p7 9).N 0)]) (fun p9=>?_) (fun p9 W9 T hF hK=>?_)
 ·refine okv ?_
  iterate 2 refine okl ?_
  refine okc (fun W cx=>as_n cx.hb (unhide H8 _ _ _ (p4 7).C _ _ (p7 4).C' ⟨_,_,cx.B 0 _ rfl (by kernel_rfl) (by kernel_rfl),hp0⟩ (Mine.num cx.G.2.2.2.2.2.2.1) (Mine.num cx.G.2.1))) ?_
  refine okp ?_
  exact ok_nil
 replace hS:=SymF.fc hS hF [0,1,2,3,4,5,6,7,8,9,10,11] [⟨p,cs9,t9_,false⟩,⟨(p1 0).N,#[.bool s,.slice a1 n1 c1,.slice a2 n2 c2,.bool s,.slice a3 n3 c3,.slice a4 n4 c4],86,true⟩,⟨(p1 1).N,#[.slice none 0 0,.slice none 0 0,.slice none 0 0,.slice none 0 0,.slice none 0 0,.bool false],147,true⟩,⟨(p2 11).N,#[.slice (p2 7).A (p2 7).N (p2 7).C],26,true⟩,⟨(p2 12).N,#[.slice (p2 7).A' (p2 7).N' (p2 7).C'],26,true⟩,⟨(p3 11).N,#[.slice (p3 7).A (p3 7).N (p3 7).C],26,true⟩,⟨(p3 12).N,#[.slice (p3 7).A' (p3 7).N' (p3 7).C'],26,true⟩,⟨(p4 8).N,#[.slice (p4 7).A (p4 7).N (p4 7).C],26,true⟩,⟨(p5 12).N,#[.slice (p5 5).A (p5 5).N (p5 5).C],26,true⟩,⟨(p5 13).N,#[.slice (p5 11).A (p5 11).N (p5 11).C],26,true⟩,⟨(p6 9).N,#[.slice (p6 4).A' (p6 4).N' (p6 4).C'],26,true⟩,⟨(p7 9).N,#[.slice (p9 3).A (p9 3).N (p9 3).C],26,true⟩]
 replace hG:GsAt (gM W8.heap.size (p9 3).A (p9 3).N (p9 3).C rj :: _) W9:=⟨hF.fx 3,hF.gx⟩
 clear hF
 refine then_n ?_
 refine wq hS hG hK (fun p10=>[.v 91 (.pointer (some ⟨p,0,none⟩)),.v 92 (.pointer (some ⟨p,0,none⟩)),.l 93 (.agg #[.slice (p6 4).A' (p6 4).N' (p6 4).C']) 10 0,.l 94 (.agg #[.slice (p9 3).A (p9 3).N (p9 3).C]) 11 0,.c (some 95) (cN W9.heap.size di),.l 96 (.agg #[.slice (p4 7).A (p4 7).N (p4 7).C]) 7 0,.c (some 97) (cN W9.heap.size lo),.n 16 #[.slice none 0 0] 26,.p 1007 0 [.slice (p10 6).A (p10 6).N (p10 6).C]]) (fun p10=>[(0,.pointer (some ⟨p,0,none⟩)),(3,pT (p1 0).N 0),(4,pT (p1 1).N 0),(5,pT (p2 11).N 0),(6,pT (p2 12).N 0),(7,pT (p3 11).N 0),(8,pT (p3 12).N 0),(10,pT (p5 12).N 0),(11,pT (p5 13).N 0),(16,pT (p10 7).N 0)]) (fun p10=>?_) (fun p10 W10 T hF hK=>?_)
 ·iterate 2 refine okv ?_
  iterate 2 refine okl ?_
  refine okc (fun W cx=>as_n cx.hb (unhide H9 _ _ _ (p6 4).C' _ _ (p9 3).C ⟨_,_,cx.B 0 _ rfl (by kernel_rfl) (by kernel_rfl),hp0⟩ (Mine.num cx.G.2.2.2.2.1) (Mine.num cx.G.1))) ?_
  refine okl ?_
  refine okc (fun W cx=>as_n cx.hb (unhide HA _ _ _ (p10 4).C _ _ (p4 7).C ⟨_,_,cx.B 0 _ rfl (by kernel_rfl) (by kernel_rfl),hp0⟩ (Mine.num (cx.F 4 (by kernel_rfl))) (Mine.num cx.G.2.2.2.2.2.2.2.1))) ?_
  refine okn ?_
  refine okp ?_
  exact ok_nil
 replace hS:=SymF.fc hS hF [0,1,2,3,4,5,6,8,9,1007] [⟨p,cs9,t9_,false⟩,⟨(p1 0).N,#[.bool s,.slice a1 n1 c1,.slice a2 n2 c2,.bool s,.slice a3 n3 c3,.slice a4 n4 c4],86,true⟩,⟨(p1 1).N,#[.slice none 0 0,.slice none 0 0,.slice none 0 0,.slice none 0 0,.slice none 0 0,.bool false],147,true⟩,⟨(p2 11).N,#[.slice (p2 7).A (p2 7).N (p2 7).C],26,true⟩,⟨(p2 12).N,#[.slice (p2 7).A' (p2 7).N' (p2 7).C'],26,true⟩,⟨(p3 11).N,#[.slice (p3 7).A (p3 7).N (p3 7).C],26,true⟩,⟨(p3 12).N,#[.slice (p3 7).A' (p3 7).N' (p3 7).C'],26,true⟩,⟨(p5 12).N,#[.slice (p5 5).A (p5 5).N (p5 5).C],26,true⟩,⟨(p5 13).N,#[.slice (p5 11).A (p5 11).N (p5 11).C],26,true⟩,⟨(p10 7).N,#[.slice (p10 6).A (p10 6).N (p10 6).C],26,true⟩]
 replace hG:GsAt (gM W9.heap.size (p10 4).A (p10 4).N (p10 4).C di :: gM W9.heap.size (p10 6).A (p10 6).N (p10 6).C lo :: _) W10:=⟨hF.fx 4,hF.fx 6,hF.gx⟩
 clear hF
 have z10:=hS.fr.size
 refine wq hS hG hK (fun p11=>[.v 98 (.pointer (some ⟨p,0,none⟩)),.l 99 (.agg #[.slice (p5 11).A (p5 11).N (p5 11).C]) 8 0,.v 100 (.pointer (some ⟨p,0,none⟩)),.v 101 (pT (p1 0).N 3),.v 102 (pT (p1 0).N 5),.l 103 (.agg #[.slice a4 n4 c4]) 1 5,.l 104 (.agg #[.slice (p10 6).A (p10 6).N (p10 6).C]) 9 0,.c (some 105) (cN W10.heap.size e),.c (some 106) (cN W10.heap.size dn),.n 17 #[.slice none 0 0] 26,.p 1009 0 [.slice (p11 8).A (p11 8).N (p11 8).C]]) (fun p11=>[(0,.pointer (some ⟨p,0,none⟩)),(4,pT (p1 1).N 0),(5,pT (p2 11).N 0),(6,pT (p2 12).N 0),(7,pT (p3 11).N 0),(8,pT (p3 12).N 0),(10,pT (p5 12).N 0),(11,pT (p5 13).N 0),(16,pT (p10 7).N 0),(17,pT (p11 9).N 0)]) (fun p11=>?_) (fun p11 W11 T hF hK=>?_)
 ·refine okv ?_
  refine okl ?_
  iterate 3 refine okv ?_
  iterate 2 refine okl ?_
  refine okc (fun W cx=>as_n cx.hb (unhide HB _ _ _ c4 _ _ (p10 6).C ⟨_,_,cx.B 0 _ rfl (by kernel_rfl) (by kernel_rfl),hp0⟩ (cx.G.2.2.2.2.2.2.2.2.2.2.2.2.2.2.2.2.2.1) (Mine.num cx.G.2.1))) ?_
  refine okc (fun W cx=>as_n cx.hb (unhide HC _ _ _ (p5 11).C _ _ (p11 7).C ⟨_,_,cx.B 0 _ rfl (by kernel_rfl) (by kernel_rfl),hp0⟩ (Mine.num cx.G.2.2.2.2.2.2.2.2.1) (Mine.num (cx.F 7 (by kernel_rfl))))) ?_
  refine okn ?_
  refine okp ?_
  exact ok_nil
 replace hS:=SymF.fc hS hF [0,2,3,4,5,6,7,8,9,1009] [⟨p,cs9,t9_,false⟩,⟨(p1 1).N,#[.slice none 0 0,.slice none 0 0,.slice none 0 0,.slice none 0 0,.slice none 0 0,.bool false],147,true⟩,⟨(p2 11).N,#[.slice (p2 7).A (p2 7).N (p2 7).C],26,true⟩,⟨(p2 12).N,#[.slice (p2 7).A' (p2 7).N' (p2 7).C'],26,true⟩,⟨(p3 11).N,#[.slice (p3 7).A (p3 7).N (p3 7).C],26,true⟩,⟨(p3 12).N,#[.slice (p3 7).A' (p3 7).N' (p3 7).C'],26,true⟩,⟨(p5 12).N,#[.slice (p5 5).A (p5 5).N (p5 5).C],26,true⟩,⟨(p5 13).N,#[.slice (p5 11).A (p5 11).N (p5 11).C],26,true⟩,⟨(p10 7).N,#[.slice (p10 6).A (p10 6).N (p10 6).C],26,true⟩,⟨(p11 9).N,#[.slice (p11 8).A (p11 8).N (p11 8).C],26,true⟩]
 replace hG:GsAt (gM W10.heap.size (p11 7).A (p11 7).N (p11 7).C e :: gM W10.heap.size (p11 8).A (p11 8).N (p11 8).C dn :: _) W11:=⟨hF.fx 7,hF.fx 8,hF.gx⟩
 clear hF
 have z11:=hS.fr.size
 refine wq hS hG hK (fun p12=>[.v 108 (.pointer (some ⟨p,0,none⟩)),.l 109 (.agg #[.slice (p2 7).A' (p2 7).N' (p2 7).C']) 3 0,.l 110 (.agg #[.slice (p5 5).A (p5 5).N (p5 5).C]) 6 0,.l 111 (.agg #[.slice (p10 6).A (p10 6).N (p10 6).C]) 8 0,.c (some 112) (cH W11.heap.size pa br fun x9 y9=>.tuple #[.agg #[x9],.agg #[y9]]),.v 107 (.tuple #[.agg #[.slice (p12 4).A (p12 4).N (p12 4).C],.agg #[.slice (p12 4).A' (p12 4).N' (p12 4).C']]),.v 113 (.agg #[.slice (p12 4).A (p12 4).N (p12 4).C]),.v 114 (.agg #[.slice (p12 4).A' (p12 4).N' (p12 4).C']),.n 18 #[.slice none 0 0] 26,.n 19 #[.slice none 0 0] 26,.p 1008 0 [.slice (p12 4).A (p12 4).N (p12 4).C],.p 1009 0 [.slice (p12 4).A' (p12 4).N' (p12 4).C']]) (fun p12=>[(0,.pointer (some ⟨p,0,none⟩)),(4,pT (p1 1).N 0),(5,pT (p2 11).N 0),(7,pT (p3 11).N 0),(8,pT (p3 12).N 0),(11,pT (p5 13).N 0),(16,pT (p10 7).N 0),(17,pT (p11 9).N 0),(18,pT (p12 8).N 0),(19,pT (p12 9).N 0)]) (fun p12=>?_) (fun p12 W12 T hF hK=>?_)
 ·refine okv ?_
  iterate 3 refine okl ?_
  refine okc (fun W cx=>as_h cx.hb (unhide HD _ _ _ (p2 7).C' _ _ (p5 5).C _ _ (p10 6).C ⟨_,_,cx.B 0 _ rfl (by kernel_rfl) (by kernel_rfl),hp0⟩ (Mine.num cx.G.2.2.2.2.2.2.2.2.2.2.2.2.2.2.2.1) (Mine.num cx.G.2.2.2.2.2.2.2.2.2.1) (Mine.num cx.G.2.2.2.1))) ?_
  iterate 3 refine okv ?_
  iterate 2 refine okn ?_
  iterate 2 refine okp ?_
  exact ok_nil
 replace hS:=SymF.fc hS hF [0,1,2,4,5,7,8,9,1008,1009] [⟨p,cs9,t9_,false⟩,⟨(p1 1).N,#[.slice none 0 0,.slice none 0 0,.slice none 0 0,.slice none 0 0,.slice none 0 0,.bool false],147,true⟩,⟨(p2 11).N,#[.slice (p2 7).A (p2 7).N (p2 7).C],26,true⟩,⟨(p3 11).N,#[.slice (p3 7).A (p3 7).N (p3 7).C],26,true⟩,⟨(p3 12).N,#[.slice (p3 7).A' (p3 7).N' (p3 7).C'],26,true⟩,⟨(p5 13).N,#[.slice (p5 11).A (p5 11).N (p5 11).C],26,true⟩,⟨(p10 7).N,#[.slice (p10 6).A (p10 6).N (p10 6).C],26,true⟩,⟨(p11 9).N,#[.slice (p11 8).A (p11 8).N (p11 8).C],26,true⟩,⟨(p12 8).N,#[.slice (p12 4).A (p12 4).N (p12 4).C],26,true⟩,⟨(p12 9).N,#[.slice (p12 4).A' (p12 4).N' (p12 4).C'],26,true⟩]
 replace hG:GsAt (gM W11.heap.size (p12 4).A (p12 4).N (p12 4).C pa :: gM W11.heap.size (p12 4).A' (p12 4).N' (p12 4).C' br :: _) W12:=⟨And.left (hF.fx 4),And.right (hF.fx 4),hF.gx⟩
 clear hF
 have z12:=hS.fr.size
 refine wq hS hG hK (fun p13=>[.v 116 (.pointer (some ⟨p,0,none⟩)),.l 117 (.agg #[.slice (p3 7).A' (p3 7).N' (p3 7).C']) 4 0,.l 118 (.agg #[.slice (p5 11).A (p5 11).N (p5 11).C]) 5 0,.l 119 (.agg #[.slice (p10 6).A (p10 6).N (p10 6).C]) 6 0,.c (some 120) (cH W12.heap.size pb bs fun x9 y9=>.tuple #[.agg #[x9],.agg #[y9]]),.v 115 (.tuple #[.agg #[.slice (p13 4).A (p13 4).N (p13 4).C],.agg #[.slice (p13 4).A' (p13 4).N' (p13 4).C']]),.v 121 (.agg #[.slice (p13 4).A (p13 4).N (p13 4).C]),.v 122 (.agg #[.slice (p13 4).A' (p13 4).N' (p13 4).C']),.n 20 #[.slice none 0 0] 26,.n 21 #[.slice none 0 0] 26,.p 1008 0 [.slice (p13 4).A (p13 4).N (p13 4).C],.p 1009 0 [.slice (p13 4).A' (p13 4).N' (p13 4).C']]) (fun p13=>[(4,pT (p1 1).N 0),(5,pT (p2 11).N 0),(7,pT (p3 11).N 0),(17,pT (p11 9).N 0),(18,pT (p12 8).N 0),(19,pT (p12 9).N 0),(20,pT (p13 8).N 0)]) (fun p13=>?_) (fun p13 W13 T hF hK=>?_)
 ·refine okv ?_
  iterate 3 refine okl ?_
  refine okc (fun W cx=>as_h cx.hb (unhide HE _ _ _ (p3 7).C' _ _ (p5 11).C _ _ (p10 6).C ⟨_,_,cx.B 0 _ rfl (by kernel_rfl) (by kernel_rfl),hp0⟩ (Mine.num cx.G.2.2.2.2.2.2.2.2.2.2.2.2.2.2.2.1) (Mine.num cx.G.2.2.2.2.2.2.2.2.2.2.2.2.1) (Mine.num cx.G.2.2.2.2.2.1))) ?_
  iterate 3 refine okv ?_
  iterate 2 refine okn ?_
  iterate 2 refine okp ?_
  exact ok_nil
 replace hS:=SymF.fc hS hF [0,1,2,3,7,8,9,1008] [⟨p,cs9,t9_,false⟩,⟨(p1 1).N,#[.slice none 0 0,.slice none 0 0,.slice none 0 0,.slice none 0 0,.slice none 0 0,.bool false],147,true⟩,⟨(p2 11).N,#[.slice (p2 7).A (p2 7).N (p2 7).C],26,true⟩,⟨(p3 11).N,#[.slice (p3 7).A (p3 7).N (p3 7).C],26,true⟩,⟨(p11 9).N,#[.slice (p11 8).A (p11 8).N (p11 8).C],26,true⟩,⟨(p12 8).N,#[.slice (p12 4).A (p12 4).N (p12 4).C],26,true⟩,⟨(p12 9).N,#[.slice (p12 4).A' (p12 4).N' (p12 4).C'],26,true⟩,⟨(p13 8).N,#[.slice (p13 4).A (p13 4).N (p13 4).C],26,true⟩]
 replace hG:GsAt (gM W12.heap.size (p13 4).A (p13 4).N (p13 4).C pb :: gM W12.heap.size (p13 4).A' (p13 4).N' (p13 4).C' bs :: _) W13:=⟨And.left (hF.fx 4),And.right (hF.fx 4),hF.gx⟩
 clear hF
 refine wq hS hG hK (fun p14=>[.l 123 (.agg #[.slice (p2 7).A (p2 7).N (p2 7).C]) 2 0,.l 124 (.agg #[.slice (p3 7).A (p3 7).N (p3 7).C]) 3 0,.l 125 (.agg #[.slice (p12 4).A (p12 4).N (p12 4).C]) 5 0,.l 126 (.agg #[.slice (p13 4).A (p13 4).N (p13 4).C]) 7 0,.l 127 (.agg #[.slice (p11 8).A (p11 8).N (p11 8).C]) 4 0,.l 128 (.agg #[.slice (p12 4).A' (p12 4).N' (p12 4).C']) 6 0,.c (some 129) (cV (.bool b)),.v 130 (.bool (!b)),.v 131 (.agg #[.slice (p2 7).A (p2 7).N (p2 7).C,.slice (p3 7).A (p3 7).N (p3 7).C,.slice (p12 4).A (p12 4).N (p12 4).C,.slice (p13 4).A (p13 4).N (p13 4).C,.slice (p11 8).A (p11 8).N (p11 8).C,.bool (!b)]),.p 1 0 [.slice (p2 7).A (p2 7).N (p2 7).C,.slice (p3 7).A (p3 7).N (p3 7).C,.slice (p12 4).A (p12 4).N (p12 4).C,.slice (p13 4).A (p13 4).N (p13 4).C,.slice (p11 8).A (p11 8).N (p11 8).C,.bool (!b)]]) (fun p14=>[(4,pT (p1 1).N 0)]) (fun p14=>?_) (fun p14 W14 T hF hK=>?_)
 ·iterate 6 refine okl ?_
  refine okc (fun W cx=>as_v (znought (p12 4).A' _ (p12 4).C' _ _ ((Num.zdec (Mine.num cx.G.2.2.2.1)).trans hz))) ?_
  iterate 2 refine okv ?_
  refine okp ?_
  exact ok_nil
 replace hS:=SymF.fc hS hF [0,1] [⟨p,cs9,t9_,false⟩,⟨(p1 1).N,#[.slice (p2 7).A (p2 7).N (p2 7).C,.slice (p3 7).A (p3 7).N (p3 7).C,.slice (p12 4).A (p12 4).N (p12 4).C,.slice (p13 4).A (p13 4).N (p13 4).C,.slice (p11 8).A (p11 8).N (p11 8).C,.bool (!b)],147,true⟩]
 replace hG:=hF.gx
 clear hF
 refine wp_ret ?_
 exact sym_end hS hK (.agg #[.slice (p2 7).A (p2 7).N (p2 7).C,.slice (p3 7).A (p3 7).N (p3 7).C,.slice (p12 4).A (p12 4).N (p12 4).C,.slice (p13 4).A (p13 4).N (p13 4).C,.slice (p11 8).A (p11 8).N (p11 8).C,.bool (!b)]) [(1,0,6)] [.slice (p2 7).A (p2 7).N (p2 7).C,.slice (p3 7).A (p3 7).N (p3 7).C,.slice (p12 4).A (p12 4).N (p12 4).C,.slice (p13 4).A (p13 4).N (p13 4).C,.slice (p11 8).A (p11 8).N (p11 8).C,.bool (!b)] (by kernel_rfl) (by kernel_rfl) ⟨⟨_,_,_,_,_,_,_,_,_,_,_,_,_,_,_,rfl,Mine.mono hG.2.2.2.2.2.2.2.2.2.2.2.2.2.2.2.2.2.2.1 z1,Mine.mono hG.2.2.2.2.2.2.2.2.2.2.2.2.2.2.2.2.1 z2,Mine.mono hG.2.2.1 z11,Mine.mono hG.1 z12,Mine.mono hG.2.2.2.2.2.1 z10⟩,hS.fr⟩
theorem zspl_d (w:World) (p:Nat) (a1 a2 a3 a4:Option Addr) (n1 n2 n3 n4 c1 c2 c3 c4 m1 d1 m2 d2:Nat) (s t b:Bool) (wa ra wb rb g ta tb q1 le q2 ri di lo e dn pa br pb bs:Nat) (hR:Rz w p 0) (h1:Num w a1 n1 m1) (h2:Num w a2 n2 d1) (h3:Num w a3 n3 m2) (h4:Num w a4 n4 d2) (H1:Hid (WDiv p m1 d1 wa ra)) (H2:Hid (WDiv p m2 d2 wb rb)) (H3:Hid (WTwo 69 p d1 d2 g)) (H4:Hid (WTwo 71 p d2 g ta)) (H5:Hid (WTwo 71 p d1 g tb)) (H6:Hid (WMo p ra ta g q1 le)) (H7:Hid (WMo p rb tb g q2 ri)) (H9:Hid (WTwo 132 p le ri di)) (HA:Hid (WTwo 69 p di g lo)) (HB:Hid (WTwo 71 p d2 lo e)) (HC:Hid (WTwo 89 p tb e dn)) (HD:Hid (WMo p ra ta lo pa br)) (HE:Hid (WMo p rb tb lo pb bs)) (hz:decide (br = 0) = b) (hst:(s == t) = false)  :
  Calls Tryz.prog 113 #[.pointer (some ⟨p,0,none⟩),.agg #[.bool s,.slice a1 n1 c1,.slice a2 n2 c2,.bool t,.slice a3 n3 c3,.slice a4 n4 c4]] w fun en w'=>(∃ A N C A' N' C' A2 N2 C2 A3 N3 C3 A4 N4 C4,en = .returned (.agg #[.slice A N C,.slice A' N' C',.slice A2 N2 C2,.slice A3 N3 C3,.slice A4 N4 C4,.bool (!b)])∧Mine w' w.heap.size A N C wa∧Mine w' w.heap.size A' N' C' wb∧Mine w' w.heap.size A2 N2 C2 pa∧Mine w' w.heap.size A3 N3 C3 pb∧Mine w' w.heap.size A4 N4 C4 dn)∧Below w.heap.size w w':=by
 obtain ⟨cs9,t9_,hp,hp0⟩:=hR
 refine calls_sym Tryz.func113 rfl (by kernel_rfl) fun T hK=>?_
 replace hK:Kn T _ [(0,.pointer (some ⟨p,0,none⟩)),(1,.agg #[.bool s,.slice a1 n1 c1,.slice a2 n2 c2,.bool t,.slice a3 n3 c3,.slice a4 n4 c4])]:=hK
 have hS:=Fb.other hp
 have hG:GsAt [gN a1 n1 m1,gN a2 n2 d1,gN a3 n3 m2,gN a4 n4 d2] w:=⟨h1,h2,h3,h4,trivial⟩
 refine wq hS hG hK (fun p1=>[.n 3 #[.bool s,.slice a1 n1 c1,.slice a2 n2 c2,.bool t,.slice a3 n3 c3,.slice a4 n4 c4] 86,.n 4 #[.slice none 0 0,.slice none 0 0,.slice none 0 0,.slice none 0 0,.slice none 0 0,.bool false] 147]) (fun p1=>[(0,.pointer (some ⟨p,0,none⟩)),(3,pT (p1 0).N 0),(4,pT (p1 1).N 0)]) (fun p1=>?_) (fun p1 W1 T hF hK=>?_)
 ·iterate 2 refine okn ?_
  exact ok_nil
 replace hS:=SymF.fc hS hF [0,1000,1001] [⟨p,cs9,t9_,false⟩,⟨(p1 0).N,#[.bool s,.slice a1 n1 c1,.slice a2 n2 c2,.bool t,.slice a3 n3 c3,.slice a4 n4 c4],86,true⟩,⟨(p1 1).N,#[.slice none 0 0,.slice none 0 0,.slice none 0 0,.slice none 0 0,.slice none 0 0,.bool false],147,true⟩]
 replace hG:=hF.gx
 clear hF
 have z1:=hS.fr.size
 refine wq hS hG hK (fun p2=>[.v 23 (.pointer (some ⟨p,0,none⟩)),.v 24 (pT (p1 0).N 0),.v 25 (pT (p1 0).N 1),.l 26 (.agg #[.slice a1 n1 c1]) 1 1,.v 27 (pT (p1 0).N 0),.v 28 (pT (p1 0).N 2),.l 29 (.agg #[.slice a2 n2 c2]) 1 2,.c (some 30) (cH W1.heap.size wa ra fun x9 y9=>.tuple #[.agg #[x9],.agg #[y9]]),.v 22 (.tuple #[.agg #[.slice (p2 7).A (p2 7).N (p2 7).C],.agg #[.slice (p2 7).A' (p2 7).N' (p2 7).C']]),.v 31 (.agg #[.slice (p2 7).A (p2 7).N (p2 7).C]),.v 32 (.agg #[.slice (p2 7).A' (p2 7).N' (p2 7).C']),.n 5 #[.slice none 0 0] 26,.n 6 #[.slice none 0 0] 26,.p 1011 0 [.slice (p2 7).A (p2 7).N (p2 7).C],.p 1012 0 [.slice (p2 7).A' (p2 7).N' (p2 7).C']]) (fun p2=>[(0,.pointer (some ⟨p,0,none⟩)),(3,pT (p1 0).N 0),(4,pT (p1 1).N 0),(5,pT (p2 11).N 0),(6,pT (p2 12).N 0)]) (fun p2=>?_) (fun p2 W2 T hF hK=>?_)
 ·iterate 3 refine okv ?_
  refine okl ?_
  iterate 2 refine okv ?_
  refine okl ?_
  refine okc (fun W cx=>as_h cx.hb (unhide H1 _ _ _ c1 _ _ c2 ⟨_,_,cx.B 0 _ rfl (by kernel_rfl) (by kernel_rfl),hp0⟩ (cx.G.1) (cx.G.2.1))) ?_
  iterate 3 refine okv ?_
  iterate 2 refine okn ?_
  iterate 2 refine okp ?_
  exact ok_nil
 replace hS:=SymF.fc hS hF [0,1,2,1011,1012] [⟨p,cs9,t9_,false⟩,⟨(p1 0).N,#[.bool s,.slice a1 n1 c1,.slice a2 n2 c2,.bool t,.slice a3 n3 c3,.slice a4 n4 c4],86,true⟩,⟨(p1 1).N,#[.slice none 0 0,.slice none 0 0,.slice none 0 0,.slice none 0 0,.slice none 0 0,.bool false],147,true⟩,⟨(p2 11).N,#[.slice (p2 7).A (p2 7).N (p2 7).C],26,true⟩,⟨(p2 12).N,#[.slice (p2 7).A' (p2 7).N' (p2 7).C'],26,true⟩]
 replace hG:GsAt (gM W1.heap.size (p2 7).A (p2 7).N (p2 7).C wa :: gM W1.heap.size (p2 7).A' (p2 7).N' (p2 7).C' ra :: _) W2:=⟨And.left (hF.fx 7),And.right (hF.fx 7),hF.gx⟩
 clear hF
 have z2:=hS.fr.size
 refine wq hS hG hK (fun p3=>[.v 34 (.pointer (some ⟨p,0,none⟩)),.v 35 (pT (p1 0).N 3),.v 36 (pT (p1 0).N 4),.l 37 (.agg #[.slice a3 n3 c3]) 1 4,.v 38 (pT (p1 0).N 3),.v 39 (pT (p1 0).N 5),.l 40 (.agg #[.slice a4 n4 c4]) 1 5,.c (some 41) (cH W2.heap.size wb rb fun x9 y9=>.tuple #[.agg #[x9],.agg #[y9]]),.v 33 (.tuple #[.agg #[.slice (p3 7).A (p3 7).N (p3 7).C],.agg #[.slice (p3 7).A' (p3 7).N' (p3 7).C']]),.v 42 (.agg #[.slice (p3 7).A (p3 7).N (p3 7).C]),.v 43 (.agg #[.slice (p3 7).A' (p3 7).N' (p3 7).C']),.n 7 #[.slice none 0 0] 26,.n 8 #[.slice none 0 0] 26,.p 1011 0 [.slice (p3 7).A (p3 7).N (p3 7).C],.p 1012 0 [.slice (p3 7).A' (p3 7).N' (p3 7).C']]) (fun p3=>[(0,.pointer (some ⟨p,0,none⟩)),(3,pT (p1 0).N 0),(4,pT (p1 1).N 0),(5,pT (p2 11).N 0),(6,pT (p2 12).N 0),(7,pT (p3 11).N 0),(8,pT (p3 12).N 0)]) (fun p3=>?_) (fun p3 W3 T hF hK=>?_)
 ·iterate 3 refine okv ?_
  refine okl ?_
  iterate 2 refine okv ?_
  refine okl ?_
  refine okc (fun W cx=>as_h cx.hb (unhide H2 _ _ _ c3 _ _ c4 ⟨_,_,cx.B 0 _ rfl (by kernel_rfl) (by kernel_rfl),hp0⟩ (cx.G.2.2.2.2.1) (cx.G.2.2.2.2.2.1))) ?_
  iterate 3 refine okv ?_
  iterate 2 refine okn ?_
  iterate 2 refine okp ?_
  exact ok_nil
 replace hS:=SymF.fc hS hF [0,1,2,3,4,1011,1012] [⟨p,cs9,t9_,false⟩,⟨(p1 0).N,#[.bool s,.slice a1 n1 c1,.slice a2 n2 c2,.bool t,.slice a3 n3 c3,.slice a4 n4 c4],86,true⟩,⟨(p1 1).N,#[.slice none 0 0,.slice none 0 0,.slice none 0 0,.slice none 0 0,.slice none 0 0,.bool false],147,true⟩,⟨(p2 11).N,#[.slice (p2 7).A (p2 7).N (p2 7).C],26,true⟩,⟨(p2 12).N,#[.slice (p2 7).A' (p2 7).N' (p2 7).C'],26,true⟩,⟨(p3 11).N,#[.slice (p3 7).A (p3 7).N (p3 7).C],26,true⟩,⟨(p3 12).N,#[.slice (p3 7).A' (p3 7).N' (p3 7).C'],26,true⟩]
 replace hG:GsAt (gM W2.heap.size (p3 7).A (p3 7).N (p3 7).C wb :: gM W2.heap.size (p3 7).A' (p3 7).N' (p3 7).C' rb :: _) W3:=⟨And.left (hF.fx 7),And.right (hF.fx 7),hF.gx⟩
 clear hF
 refine wq hS hG hK (fun p4=>[.v 44 (.pointer (some ⟨p,0,none⟩)),.v 45 (pT (p1 0).N 0),.v 46 (pT (p1 0).N 2),.l 47 (.agg #[.slice a2 n2 c2]) 1 2,.v 48 (pT (p1 0).N 3),.v 49 (pT (p1 0).N 5),.l 50 (.agg #[.slice a4 n4 c4]) 1 5,.c (some 51) (cN W3.heap.size g),.n 9 #[.slice none 0 0] 26,.p 1008 0 [.slice (p4 7).A (p4 7).N (p4 7).C]]) (fun p4=>[(0,.pointer (some ⟨p,0,none⟩)),(3,pT (p1 0).N 0),(4,pT (p1 1).N 0),(5,pT (p2 11).N 0),(6,pT (p2 12).N 0),(7,pT (p3 11).N 0),(8,pT (p3 12).N 0),(9,pT (p4 8).N 0)]) (fun p4=>?_) (fun p4 W4 T hF hK=>?_)
 ·iterate 3 refine okv ?_
  refine okl ?_
  iterate 2 refine okv ?_
  refine okl ?_
  refine okc (fun W cx=>as_n cx.hb (unhide H3 _ _ _ c2 _ _ c4 ⟨_,_,cx.B 0 _ rfl (by kernel_rfl) (by kernel_rfl),hp0⟩ (cx.G.2.2.2.2.2.1) (cx.G.2.2.2.2.2.2.2.1))) ?_
  refine okn ?_
  refine okp ?_
  exact ok_nil
 replace hS:=SymF.fc hS hF [0,1,2,3,4,5,6,1008] [⟨p,cs9,t9_,false⟩,⟨(p1 0).N,#[.bool s,.slice a1 n1 c1,.slice a2 n2 c2,.bool t,.slice a3 n3 c3,.slice a4 n4 c4],86,true⟩,⟨(p1 1).N,#[.slice none 0 0,.slice none 0 0,.slice none 0 0,.slice none 0 0,.slice none 0 0,.bool false],147,true⟩,⟨(p2 11).N,#[.slice (p2 7).A (p2 7).N (p2 7).C],26,true⟩,⟨(p2 12).N,#[.slice (p2 7).A' (p2 7).N' (p2 7).C'],26,true⟩,⟨(p3 11).N,#[.slice (p3 7).A (p3 7).N (p3 7).C],26,true⟩,⟨(p3 12).N,#[.slice (p3 7).A' (p3 7).N' (p3 7).C'],26,true⟩,⟨(p4 8).N,#[.slice (p4 7).A (p4 7).N (p4 7).C],26,true⟩]
 replace hG:GsAt (gM W3.heap.size (p4 7).A (p4 7).N (p4 7).C g :: _) W4:=⟨hF.fx 7,hF.gx⟩
 clear hF
 refine wq hS hG hK (fun p5=>[.v 52 (.pointer (some ⟨p,0,none⟩)),.v 53 (pT (p1 0).N 3),.v 54 (pT (p1 0).N 5),.l 55 (.agg #[.slice a4 n4 c4]) 1 5,.l 56 (.agg #[.slice (p4 7).A (p4 7).N (p4 7).C]) 7 0,.c (some 57) (cN W4.heap.size ta),.v 58 (.pointer (some ⟨p,0,none⟩)),.v 59 (pT (p1 0).N 0),.v 60 (pT (p1 0).N 2),.l 61 (.agg #[.slice a2 n2 c2]) 1 2,.l 62 (.agg #[.slice (p4 7).A (p4 7).N (p4 7).C]) 7 0,.c (some 63) (cN W4.heap.size tb),.n 10 #[.slice none 0 0] 26,.n 11 #[.slice none 0 0] 26,.p 1012 0 [.slice (p5 5).A (p5 5).N (p5 5).C],.p 1013 0 [.slice (p5 11).A (p5 11).N (p5 11).C]]) (fun p5=>[(0,.pointer (some ⟨p,0,none⟩)),(3,pT (p1 0).N 0),(4,pT (p1 1).N 0),(5,pT (p2 11).N 0),(6,pT (p2 12).N 0),(7,pT (p3 11).N 0),(8,pT (p3 12).N 0),(9,pT (p4 8).N 0),(10,pT (p5 12).N 0),(11,pT (p5 13).N 0)]) (fun p5=>?_) (fun p5 W5 T hF hK=>?_)
 ·iterate 3 refine okv ?_
  iterate 2 refine okl ?_
  refine okc (fun W cx=>as_n cx.hb (unhide H4 _ _ _ c4 _ _ (p4 7).C ⟨_,_,cx.B 0 _ rfl (by kernel_rfl) (by kernel_rfl),hp0⟩ (cx.G.2.2.2.2.2.2.2.2.1) (Mine.num cx.G.1))) ?_
  iterate 3 refine okv ?_
  iterate 2 refine okl ?_
  refine okc (fun W cx=>as_n cx.hb (unhide H5 _ _ _ c2 _ _ (p4 7).C ⟨_,_,cx.B 0 _ rfl (by kernel_rfl) (by kernel_rfl),hp0⟩ (cx.G.2.2.2.2.2.2.1) (Mine.num cx.G.1))) ?_
  iterate 2 refine okn ?_
  iterate 2 refine okp ?_
  exact ok_nil
 replace hS:=SymF.fc hS hF [0,1,2,3,4,5,6,7,1012,1013] [⟨p,cs9,t9_,false⟩,⟨(p1 0).N,#[.bool s,.slice a1 n1 c1,.slice a2 n2 c2,.bool t,.slice a3 n3 c3,.slice a4 n4 c4],86,true⟩,⟨(p1 1).N,#[.slice none 0 0,.slice none 0 0,.slice none 0 0,.slice none 0 0,.slice none 0 0,.bool false],147,true⟩,⟨(p2 11).N,#[.slice (p2 7).A (p2 7).N (p2 7).C],26,true⟩,⟨(p2 12).N,#[.slice (p2 7).A' (p2 7).N' (p2 7).C'],26,true⟩,⟨(p3 11).N,#[.slice (p3 7).A (p3 7).N (p3 7).C],26,true⟩,⟨(p3 12).N,#[.slice (p3 7).A' (p3 7).N' (p3 7).C'],26,true⟩,⟨(p4 8).N,#[.slice (p4 7).A (p4 7).N (p4 7).C],26,true⟩,⟨(p5 12).N,#[.slice (p5 5).A (p5 5).N (p5 5).C],26,true⟩,⟨(p5 13).N,#[.slice (p5 11).A (p5 11).N (p5 11).C],26,true⟩]
 replace hG:GsAt (gM W4.heap.size (p5 5).A (p5 5).N (p5 5).C ta :: gM W4.heap.size (p5 11).A (p5 11).N (p5 11).C tb :: _) W5:=⟨hF.fx 5,hF.fx 11,hF.gx⟩
 clear hF
 refine wq hS hG hK (fun p6=>[.v 65 (.pointer (some ⟨p,0,none⟩)),.l 66 (.agg #[.slice (p2 7).A' (p2 7).N' (p2 7).C']) 4 0,.l 67 (.agg #[.slice (p5 5).A (p5 5).N (p5 5).C]) 8 0,.l 68 (.agg #[.slice (p4 7).A (p4 7).N (p4 7).C]) 7 0,.c (some 69) (cH W5.heap.size q1 le fun x9 y9=>.tuple #[.agg #[x9],.agg #[y9]]),.v 64 (.tuple #[.agg #[.slice (p6 4).A (p6 4).N (p6 4).C],.agg #[.slice (p6 4).A' (p6 4).N' (p6 4).C']]),.v 70 (.agg #[.slice (p6 4).A (p6 4).N (p6 4).C]),.v 71 (.agg #[.slice (p6 4).A' (p6 4).N' (p6 4).C']),.n 12 #[.slice none 0 0] 26,.n 13 #[.slice none 0 0] 26,.p 1008 0 [.slice (p6 4).A (p6 4).N (p6 4).C],.p 1009 0 [.slice (p6 4).A' (p6 4).N' (p6 4).C']]) (fun p6=>[(0,.pointer (some ⟨p,0,none⟩)),(3,pT (p1 0).N 0),(4,pT (p1 1).N 0),(5,pT (p2 11).N 0),(6,pT (p2 12).N 0),(7,pT (p3 11).N 0),(8,pT (p3 12).N 0),(9,pT (p4 8).N 0),(10,pT (p5 12).N 0),(11,pT (p5 13).N 0),(13,pT (p6 9).N 0)]) (fun p6=>?_) (fun p6 W6 T hF hK=>?_)
 ·refine okv ?_
  iterate 3 refine okl ?_
  refine okc (fun W cx=>as_h cx.hb (unhide H6 _ _ _ (p2 7).C' _ _ (p5 5).C _ _ (p4 7).C ⟨_,_,cx.B 0 _ rfl (by kernel_rfl) (by kernel_rfl),hp0⟩ (Mine.num cx.G.2.2.2.2.2.2.1) (Mine.num cx.G.1) (Mine.num cx.G.2.2.1))) ?_
  iterate 3 refine okv ?_
  iterate 2 refine okn ?_
  iterate 2 refine okp ?_
  exact ok_nil
 replace hS:=SymF.fc hS hF [0,1,2,3,4,5,6,7,8,9,1009] [⟨p,cs9,t9_,false⟩,⟨(p1 0).N,#[.bool s,.slice a1 n1 c1,.slice a2 n2 c2,.bool t,.slice a3 n3 c3,.slice a4 n4 c4],86,true⟩,⟨(p1 1).N,#[.slice none 0 0,.slice none 0 0,.slice none 0 0,.slice none 0 0,.slice none 0 0,.bool false],147,true⟩,⟨(p2 11).N,#[.slice (p2 7).A (p2 7).N (p2 7).C],26,true⟩,⟨(p2 12).N,#[.slice (p2 7).A' (p2 7).N' (p2 7).C'],26,true⟩,⟨(p3 11).N,#[.slice (p3 7).A (p3 7).N (p3 7).C],26,true⟩,⟨(p3 12).N,#[.slice (p3 7).A' (p3 7).N' (p3 7).C'],26,true⟩,⟨(p4 8).N,#[.slice (p4 7).A (p4 7).N (p4 7).C],26,true⟩,⟨(p5 12).N,#[.slice (p5 5).A (p5 5).N (p5 5).C],26,true⟩,⟨(p5 13).N,#[.slice (p5 11).A (p5 11).N (p5 11).C],26,true⟩,⟨(p6 9).N,#[.slice (p6 4).A' (p6 4).N' (p6 4).C'],26,true⟩]
 replace hG:GsAt (gM W5.heap.size (p6 4).A (p6 4).N (p6 4).C q1 :: gM W5.heap.size (p6 4).A' (p6 4).N' (p6 4).C' le :: _) W6:=⟨And.left (hF.fx 4),And.right (hF.fx 4),hF.gx⟩
 clear hF
 refine wq hS hG hK (fun p7=>[.v 73 (.pointer (some ⟨p,0,none⟩)),.l 74 (.agg #[.slice (p3 7).A' (p3 7).N' (p3 7).C']) 6 0,.l 75 (.agg #[.slice (p5 11).A (p5 11).N (p5 11).C]) 9 0,.l 76 (.agg #[.slice (p4 7).A (p4 7).N (p4 7).C]) 7 0,.c (some 77) (cH W6.heap.size q2 ri fun x9 y9=>.tuple #[.agg #[x9],.agg #[y9]]),.v 72 (.tuple #[.agg #[.slice (p7 4).A (p7 4).N (p7 4).C],.agg #[.slice (p7 4).A' (p7 4).N' (p7 4).C']]),.v 78 (.agg #[.slice (p7 4).A (p7 4).N (p7 4).C]),.v 79 (.agg #[.slice (p7 4).A' (p7 4).N' (p7 4).C']),.n 14 #[.slice none 0 0] 26,.n 15 #[.slice none 0 0] 26,.p 1008 0 [.slice (p7 4).A (p7 4).N (p7 4).C],.p 1009 0 [.slice (p7 4).A' (p7 4).N' (p7 4).C']]) (fun p7=>[(0,.pointer (some ⟨p,0,none⟩)),(3,pT (p1 0).N 0),(4,pT (p1 1).N 0),(5,pT (p2 11).N 0),(6,pT (p2 12).N 0),(7,pT (p3 11).N 0),(8,pT (p3 12).N 0),(9,pT (p4 8).N 0),(10,pT (p5 12).N 0),(11,pT (p5 13).N 0),(13,pT (p6 9).N 0),(15,pT (p7 9).N 0)]) (fun p7=>?_) (fun p7 W7 T hF hK=>?_)
 ·refine okv ?_
  iterate 3 refine okl ?_
  refine okc (fun W cx=>as_h cx.hb (unhide H7 _ _ _ (p3 7).C' _ _ (p5 11).C _ _ (p4 7).C ⟨_,_,cx.B 0 _ rfl (by kernel_rfl) (by kernel_rfl),hp0⟩ (Mine.num cx.G.2.2.2.2.2.2.1) (Mine.num cx.G.2.2.2.1) (Mine.num cx.G.2.2.2.2.1))) ?_
  iterate 3 refine okv ?_
  iterate 2 refine okn ?_
  iterate 2 refine okp ?_
  exact ok_nil
 replace hS:=SymF.fc hS hF [0,1,2,3,4,5,6,7,8,9,10,1009] [⟨p,cs9,t9_,false⟩,⟨(p1 0).N,#[.bool s,.slice a1 n1 c1,.slice a2 n2 c2,.bool t,.slice a3 n3 c3,.slice a4 n4 c4],86,true⟩,⟨(p1 1).N,#[.slice none 0 0,.slice none 0 0,.slice none 0 0,.slice none 0 0,.slice none 0 0,.bool false],147,true⟩,⟨(p2 11).N,#[.slice (p2 7).A (p2 7).N (p2 7).C],26,true⟩,⟨(p2 12).N,#[.slice (p2 7).A' (p2 7).N' (p2 7).C'],26,true⟩,⟨(p3 11).N,#[.slice (p3 7).A (p3 7).N (p3 7).C],26,true⟩,⟨(p3 12).N,#[.slice (p3 7).A' (p3 7).N' (p3 7).C'],26,true⟩,⟨(p4 8).N,#[.slice (p4 7).A (p4 7).N (p4 7).C],26,true⟩,⟨(p5 12).N,#[.slice (p5 5).A (p5 5).N (p5 5).C],26,true⟩,⟨(p5 13).N,#[.slice (p5 11).A (p5 11).N (p5 11).C],26,true⟩,⟨(p6 9).N,#[.slice (p6 4).A' (p6 4).N' (p6 4).C'],26,true⟩,⟨(p7 9).N,#[.slice (p7 4).A' (p7 4).N' (p7 4).C'],26,true⟩]
 replace hG:GsAt (gM W6.heap.size (p7 4).A (p7 4).N (p7 4).C q2 :: gM W6.heap.size (p7 4).A' (p7 4).N' (p7 4).C' ri :: _) W7:=⟨And.left (hF.fx 4),And.right (hF.fx 4),hF.gx⟩
 clear hF
 refine wp_seq ?_
 refine wq hS hG hK (fun p8=>[.v 80 (pT (p1 0).N 0),.v 81 (pT (p1 0).N 0),.l 82 (.bool s) 1 0,.v 83 (pT (p1 0).N 3),.v 84 (pT (p1 0).N 3),.l 85 (.bool t) 1 3,.v 86 (.bool false)]) (fun p8=>[(0,.pointer (some ⟨p,0,none⟩)),(3,pT (p1 0).N 0),(4,pT (p1 1).N 0),(5,pT (p2 11).N 0),(6,pT (p2 12).N 0),(7,pT (p3 11).N 0),(8,pT (p3 12).N 0),(9,pT (p4 8).N 0),(10,pT (p5 12).N 0),(11,pT (p5 13).N 0),(13,pT (p6 9).N 0),(15,pT (p7 9).N 0),(86,.bool false)]) (fun p8=>?_) (fun p8 W8 T hF hK=>?_)
 ·iterate 2 refine okv ?_
  refine okl ?_
  iterate 2 refine okv ?_
  refine okl ?_
  refine okvb (hst) ?_
  exact ok_nil
 obtain ⟨hS,hG⟩:=SymF.fg hS hF
 clear hF
 refine wp_cond_false (hK.ew 86) (wp_skip (then_n ?_))
 refine wq hS hG hK (fun p9=>[.v 91 (.pointer (some ⟨p,0,none⟩)),.v 92 (.pointer (some ⟨p,0,none⟩)),.l 93 (.agg #[.slice (p6 4).A' (p6 4).N' (p6 4).C']) 10 0,.l 94 (.agg #[.slice (p7 4).A' (p7 4).N' (p7 4).C']) 11 0,.c (some 95) (cN W8.heap.size di),.l 96 (.agg #[.slice (p4 7).A (p4 7).N (p4 7).C]) 7 0,.c (some 97) (cN W8.heap.size lo),.n 16 #[.slice none 0 0] 26,.p 1007 0 [.slice (p9 6).A (p9 6).N (p9 6).C]]) (fun p9=>[(0,.pointer (some ⟨p,0,none⟩)),(3,pT (p1 0).N 0),(4,pT (p1 1).N 0),(5,pT (p2 11).N 0),(6,pT (p2 12).N 0),(7,pT (p3 11).N 0),(8,pT (p3 12).N 0),(9,pT (p4 8).N 0),(10,pT (p5 12).N 0),(11,pT (p5 13).N 0),(15,pT (p7 9).N 0),(16,pT (p9 7).N 0)]) (fun p9=>?_) (fun p9 W9 T hF hK=>?_)
 ·iterate 2 refine okv ?_
  iterate 2 refine okl ?_
  refine okc (fun W cx=>as_n cx.hb (unhide H9 _ _ _ (p6 4).C' _ _ (p7 4).C' ⟨_,_,cx.B 0 _ rfl (by kernel_rfl) (by kernel_rfl),hp0⟩ (Mine.num cx.G.2.2.2.1) (Mine.num cx.G.2.1))) ?_
  refine okl ?_
  refine okc (fun W cx=>as_n cx.hb (unhide HA _ _ _ (p9 4).C _ _ (p4 7).C ⟨_,_,cx.B 0 _ rfl (by kernel_rfl) (by kernel_rfl),hp0⟩ (Mine.num (cx.F 4 (by kernel_rfl))) (Mine.num cx.G.2.2.2.2.2.2.1))) ?_
  refine okn ?_
  refine okp ?_
  exact ok_nil
 replace hS:=SymF.fc hS hF [0,1,2,3,4,5,6,7,8,9,11,1007] [⟨p,cs9,t9_,false⟩,⟨(p1 0).N,#[.bool s,.slice a1 n1 c1,.slice a2 n2 c2,.bool t,.slice a3 n3 c3,.slice a4 n4 c4],86,true⟩,⟨(p1 1).N,#[.slice none 0 0,.slice none 0 0,.slice none 0 0,.slice none 0 0,.slice none 0 0,.bool false],147,true⟩,⟨(p2 11).N,#[.slice (p2 7).A (p2 7).N (p2 7).C],26,true⟩,⟨(p2 12).N,#[.slice (p2 7).A' (p2 7).N' (p2 7).C'],26,true⟩,⟨(p3 11).N,#[.slice (p3 7).A (p3 7).N (p3 7).C],26,true⟩,⟨(p3 12).N,#[.slice (p3 7).A' (p3 7).N' (p3 7).C'],26,true⟩,⟨(p4 8).N,#[.slice (p4 7).A (p4 7).N (p4 7).C],26,true⟩,⟨(p5 12).N,#[.slice (p5 5).A (p5 5).N (p5 5).C],26,true⟩,⟨(p5 13).N,#[.slice (p5 11).A (p5 11).N (p5 11).C],26,true⟩,⟨(p7 9).N,#[.slice (p7 4).A' (p7 4).N' (p7 4).C'],26,true⟩,⟨(p9 7).N,#[.slice (p9 6).A (p9 6).N (p9 6).C],26,true⟩]
 replace hG:GsAt (gM W8.heap.size (p9 4).A (p9 4).N (p9 4).C di :: gM W8.heap.size (p9 6).A (p9 6).N (p9 6).C lo :: _) W9:=⟨hF.fx 4,hF.fx 6,hF.gx⟩
 clear hF
 have z9:=hS.fr.size
 refine wq hS hG hK (fun p10=>[.v 98 (.pointer (some ⟨p,0,none⟩)),.l 99 (.agg #[.slice (p5 11).A (p5 11).N (p5 11).C]) 9 0,.v 100 (.pointer (some ⟨p,0,none⟩)),.v 101 (pT (p1 0).N 3),.v 102 (pT (p1 0).N 5),.l 103 (.agg #[.slice a4 n4 c4]) 1 5,.l 104 (.agg #[.slice (p9 6).A (p9 6).N (p9 6).C]) 11 0,.c (some 105) (cN W9.heap.size e),.c (some 106) (cN W9.heap.size dn),.n 17 #[.slice none 0 0] 26,.p 1009 0 [.slice (p10 8).A (p10 8).N (p10 8).C]]) (fun p10=>[(0,.pointer (some ⟨p,0,none⟩)),(4,pT (p1 1).N 0),(5,pT (p2 11).N 0),(6,pT (p2 12).N 0),(7,pT (p3 11).N 0),(8,pT (p3 12).N 0),(9,pT (p4 8).N 0),(10,pT (p5 12).N 0),(11,pT (p5 13).N 0),(15,pT (p7 9).N 0),(16,pT (p9 7).N 0),(17,pT (p10 9).N 0)]) (fun p10=>?_) (fun p10 W10 T hF hK=>?_)
 ·refine okv ?_
  refine okl ?_
  iterate 3 refine okv ?_
  iterate 2 refine okl ?_
  refine okc (fun W cx=>as_n cx.hb (unhide HB _ _ _ c4 _ _ (p9 6).C ⟨_,_,cx.B 0 _ rfl (by kernel_rfl) (by kernel_rfl),hp0⟩ (cx.G.2.2.2.2.2.2.2.2.2.2.2.2.2.2.2.2.1) (Mine.num cx.G.2.1))) ?_
  refine okc (fun W cx=>as_n cx.hb (unhide HC _ _ _ (p5 11).C _ _ (p10 7).C ⟨_,_,cx.B 0 _ rfl (by kernel_rfl) (by kernel_rfl),hp0⟩ (Mine.num cx.G.2.2.2.2.2.2.2.1) (Mine.num (cx.F 7 (by kernel_rfl))))) ?_
  refine okn ?_
  refine okp ?_
  exact ok_nil
 replace hS:=SymF.fc hS hF [0,2,3,4,5,6,7,8,9,10,11,1009] [⟨p,cs9,t9_,false⟩,⟨(p1 1).N,#[.slice none 0 0,.slice none 0 0,.slice none 0 0,.slice none 0 0,.slice none 0 0,.bool false],147,true⟩,⟨(p2 11).N,#[.slice (p2 7).A (p2 7).N (p2 7).C],26,true⟩,⟨(p2 12).N,#[.slice (p2 7).A' (p2 7).N' (p2 7).C'],26,true⟩,⟨(p3 11).N,#[.slice (p3 7).A (p3 7).N (p3 7).C],26,true⟩,⟨(p3 12).N,#[.slice (p3 7).A' (p3 7).N' (p3 7).C'],26,true⟩,⟨(p4 8).N,#[.slice (p4 7).A (p4 7).N (p4 7).C],26,true⟩,⟨(p5 12).N,#[.slice (p5 5).A (p5 5).N (p5 5).C],26,true⟩,⟨(p5 13).N,#[.slice (p5 11).A (p5 11).N (p5 11).C],26,true⟩,⟨(p7 9).N,#[.slice (p7 4).A' (p7 4).N' (p7 4).C'],26,true⟩,⟨(p9 7).N,#[.slice (p9 6).A (p9 6).N (p9 6).C],26,true⟩,⟨(p10 9).N,#[.slice (p10 8).A (p10 8).N (p10 8).C],26,true⟩]
 replace hG:GsAt (gM W9.heap.size (p10 7).A (p10 7).N (p10 7).C e :: gM W9.heap.size (p10 8).A (p10 8).N (p10 8).C dn :: _) W10:=⟨hF.fx 7,hF.fx 8,hF.gx⟩
 clear hF
 have z10:=hS.fr.size
 refine wq hS hG hK (fun p11=>[.v 108 (.pointer (some ⟨p,0,none⟩)),.l 109 (.agg #[.slice (p2 7).A' (p2 7).N' (p2 7).C']) 3 0,.l 110 (.agg #[.slice (p5 5).A (p5 5).N (p5 5).C]) 7 0,.l 111 (.agg #[.slice (p9 6).A (p9 6).N (p9 6).C]) 10 0,.c (some 112) (cH W10.heap.size pa br fun x9 y9=>.tuple #[.agg #[x9],.agg #[y9]]),.v 107 (.tuple #[.agg #[.slice (p11 4).A (p11 4).N (p11 4).C],.agg #[.slice (p11 4).A' (p11 4).N' (p11 4).C']]),.v 113 (.agg #[.slice (p11 4).A (p11 4).N (p11 4).C]),.v 114 (.agg #[.slice (p11 4).A' (p11 4).N' (p11 4).C']),.n 18 #[.slice none 0 0] 26,.n 19 #[.slice none 0 0] 26,.p 1008 0 [.slice (p11 4).A (p11 4).N (p11 4).C],.p 1009 0 [.slice (p11 4).A' (p11 4).N' (p11 4).C']]) (fun p11=>[(0,.pointer (some ⟨p,0,none⟩)),(4,pT (p1 1).N 0),(5,pT (p2 11).N 0),(7,pT (p3 11).N 0),(8,pT (p3 12).N 0),(9,pT (p4 8).N 0),(11,pT (p5 13).N 0),(15,pT (p7 9).N 0),(16,pT (p9 7).N 0),(17,pT (p10 9).N 0),(18,pT (p11 8).N 0),(19,pT (p11 9).N 0)]) (fun p11=>?_) (fun p11 W11 T hF hK=>?_)
 ·refine okv ?_
  iterate 3 refine okl ?_
  refine okc (fun W cx=>as_h cx.hb (unhide HD _ _ _ (p2 7).C' _ _ (p5 5).C _ _ (p9 6).C ⟨_,_,cx.B 0 _ rfl (by kernel_rfl) (by kernel_rfl),hp0⟩ (Mine.num cx.G.2.2.2.2.2.2.2.2.2.2.2.2.2.2.1) (Mine.num cx.G.2.2.2.2.2.2.2.2.1) (Mine.num cx.G.2.2.2.1))) ?_
  iterate 3 refine okv ?_
  iterate 2 refine okn ?_
  iterate 2 refine okp ?_
  exact ok_nil
 replace hS:=SymF.fc hS hF [0,1,2,4,5,6,8,9,10,11,1008,1009] [⟨p,cs9,t9_,false⟩,⟨(p1 1).N,#[.slice none 0 0,.slice none 0 0,.slice none 0 0,.slice none 0 0,.slice none 0 0,.bool false],147,true⟩,⟨(p2 11).N,#[.slice (p2 7).A (p2 7).N (p2 7).C],26,true⟩,⟨(p3 11).N,#[.slice (p3 7).A (p3 7).N (p3 7).C],26,true⟩,⟨(p3 12).N,#[.slice (p3 7).A' (p3 7).N' (p3 7).C'],26,true⟩,⟨(p4 8).N,#[.slice (p4 7).A (p4 7).N (p4 7).C],26,true⟩,⟨(p5 13).N,#[.slice (p5 11).A (p5 11).N (p5 11).C],26,true⟩,⟨(p7 9).N,#[.slice (p7 4).A' (p7 4).N' (p7 4).C'],26,true⟩,⟨(p9 7).N,#[.slice (p9 6).A (p9 6).N (p9 6).C],26,true⟩,⟨(p10 9).N,#[.slice (p10 8).A (p10 8).N (p10 8).C],26,true⟩,⟨(p11 8).N,#[.slice (p11 4).A (p11 4).N (p11 4).C],26,true⟩,⟨(p11 9).N,#[.slice (p11 4).A' (p11 4).N' (p11 4).C'],26,true⟩]
 replace hG:GsAt (gM W10.heap.size (p11 4).A (p11 4).N (p11 4).C pa :: gM W10.heap.size (p11 4).A' (p11 4).N' (p11 4).C' br :: _) W11:=⟨And.left (hF.fx 4),And.right (hF.fx 4),hF.gx⟩
 clear hF
 have z11:=hS.fr.size
 refine wq hS hG hK (fun p12=>[.v 116 (.pointer (some ⟨p,0,none⟩)),.l 117 (.agg #[.slice (p3 7).A' (p3 7).N' (p3 7).C']) 4 0,.l 118 (.agg #[.slice (p5 11).A (p5 11).N (p5 11).C]) 6 0,.l 119 (.agg #[.slice (p9 6).A (p9 6).N (p9 6).C]) 8 0,.c (some 120) (cH W11.heap.size pb bs fun x9 y9=>.tuple #[.agg #[x9],.agg #[y9]]),.v 115 (.tuple #[.agg #[.slice (p12 4).A (p12 4).N (p12 4).C],.agg #[.slice (p12 4).A' (p12 4).N' (p12 4).C']]),.v 121 (.agg #[.slice (p12 4).A (p12 4).N (p12 4).C]),.v 122 (.agg #[.slice (p12 4).A' (p12 4).N' (p12 4).C']),.n 20 #[.slice none 0 0] 26,.n 21 #[.slice none 0 0] 26,.p 1008 0 [.slice (p12 4).A (p12 4).N (p12 4).C],.p 1009 0 [.slice (p12 4).A' (p12 4).N' (p12 4).C']]) (fun p12=>[(0,.pointer (some ⟨p,0,none⟩)),(4,pT (p1 1).N 0),(5,pT (p2 11).N 0),(7,pT (p3 11).N 0),(9,pT (p4 8).N 0),(15,pT (p7 9).N 0),(17,pT (p10 9).N 0),(18,pT (p11 8).N 0),(19,pT (p11 9).N 0),(20,pT (p12 8).N 0)]) (fun p12=>?_) (fun p12 W12 T hF hK=>?_)
 ·refine okv ?_
  iterate 3 refine okl ?_
  refine okc (fun W cx=>as_h cx.hb (unhide HE _ _ _ (p3 7).C' _ _ (p5 11).C _ _ (p9 6).C ⟨_,_,cx.B 0 _ rfl (by kernel_rfl) (by kernel_rfl),hp0⟩ (Mine.num cx.G.2.2.2.2.2.2.2.2.2.2.2.2.2.2.1) (Mine.num cx.G.2.2.2.2.2.2.2.2.2.2.2.1) (Mine.num cx.G.2.2.2.2.2.1))) ?_
  iterate 3 refine okv ?_
  iterate 2 refine okn ?_
  iterate 2 refine okp ?_
  exact ok_nil
 replace hS:=SymF.fc hS hF [0,1,2,3,5,7,9,10,11,1008] [⟨p,cs9,t9_,false⟩,⟨(p1 1).N,#[.slice none 0 0,.slice none 0 0,.slice none 0 0,.slice none 0 0,.slice none 0 0,.bool false],147,true⟩,⟨(p2 11).N,#[.slice (p2 7).A (p2 7).N (p2 7).C],26,true⟩,⟨(p3 11).N,#[.slice (p3 7).A (p3 7).N (p3 7).C],26,true⟩,⟨(p4 8).N,#[.slice (p4 7).A (p4 7).N (p4 7).C],26,true⟩,⟨(p7 9).N,#[.slice (p7 4).A' (p7 4).N' (p7 4).C'],26,true⟩,⟨(p10 9).N,#[.slice (p10 8).A (p10 8).N (p10 8).C],26,true⟩,⟨(p11 8).N,#[.slice (p11 4).A (p11 4).N (p11 4).C],26,true⟩,⟨(p11 9).N,#[.slice (p11 4).A' (p11 4).N' (p11 4).C'],26,true⟩,⟨(p12 8).N,#[.slice (p12 4).A (p12 4).N (p12 4).C],26,true⟩]
 replace hG:GsAt (gM W11.heap.size (p12 4).A (p12 4).N (p12 4).C pb :: gM W11.heap.size (p12 4).A' (p12 4).N' (p12 4).C' bs :: _) W12:=⟨And.left (hF.fx 4),And.right (hF.fx 4),hF.gx⟩
 clear hF
 refine wq hS hG hK (fun p13=>[.l 123 (.agg #[.slice (p2 7).A (p2 7).N (p2 7).C]) 2 0,.l 124 (.agg #[.slice (p3 7).A (p3 7).N (p3 7).C]) 3 0,.l 125 (.agg #[.slice (p11 4).A (p11 4).N (p11 4).C]) 7 0,.l 126 (.agg #[.slice (p12 4).A (p12 4).N (p12 4).C]) 9 0,.l 127 (.agg #[.slice (p10 8).A (p10 8).N (p10 8).C]) 6 0,.l 128 (.agg #[.slice (p11 4).A' (p11 4).N' (p11 4).C']) 8 0,.c (some 129) (cV (.bool b)),.v 130 (.bool (!b)),.v 131 (.agg #[.slice (p2 7).A (p2 7).N (p2 7).C,.slice (p3 7).A (p3 7).N (p3 7).C,.slice (p11 4).A (p11 4).N (p11 4).C,.slice (p12 4).A (p12 4).N (p12 4).C,.slice (p10 8).A (p10 8).N (p10 8).C,.bool (!b)]),.p 1 0 [.slice (p2 7).A (p2 7).N (p2 7).C,.slice (p3 7).A (p3 7).N (p3 7).C,.slice (p11 4).A (p11 4).N (p11 4).C,.slice (p12 4).A (p12 4).N (p12 4).C,.slice (p10 8).A (p10 8).N (p10 8).C,.bool (!b)]]) (fun p13=>[(0,.pointer (some ⟨p,0,none⟩)),(4,pT (p1 1).N 0),(9,pT (p4 8).N 0),(15,pT (p7 9).N 0)]) (fun p13=>?_) (fun p13 W13 T hF hK=>?_)
 ·iterate 6 refine okl ?_
  refine okc (fun W cx=>as_v (znought (p11 4).A' _ (p11 4).C' _ _ ((Num.zdec (Mine.num cx.G.2.2.2.1)).trans hz))) ?_
  iterate 2 refine okv ?_
  refine okp ?_
  exact ok_nil
 replace hS:=SymF.fc hS hF [0,1,4,5] [⟨p,cs9,t9_,false⟩,⟨(p1 1).N,#[.slice (p2 7).A (p2 7).N (p2 7).C,.slice (p3 7).A (p3 7).N (p3 7).C,.slice (p11 4).A (p11 4).N (p11 4).C,.slice (p12 4).A (p12 4).N (p12 4).C,.slice (p10 8).A (p10 8).N (p10 8).C,.bool (!b)],147,true⟩,⟨(p4 8).N,#[.slice (p4 7).A (p4 7).N (p4 7).C],26,true⟩,⟨(p7 9).N,#[.slice (p7 4).A' (p7 4).N' (p7 4).C'],26,true⟩]
 replace hG:=hF.gx
 clear hF
 refine wp_ret ?_
 exact sym_end hS hK (.agg #[.slice (p2 7).A (p2 7).N (p2 7).C,.slice (p3 7).A (p3 7).N (p3 7).C,.slice (p11 4).A (p11 4).N (p11 4).C,.slice (p12 4).A (p12 4).N (p12 4).C,.slice (p10 8).A (p10 8).N (p10 8).C,.bool (!b)]) [(1,0,6)] [.slice (p2 7).A (p2 7).N (p2 7).C,.slice (p3 7).A (p3 7).N (p3 7).C,.slice (p11 4).A (p11 4).N (p11 4).C,.slice (p12 4).A (p12 4).N (p12 4).C,.slice (p10 8).A (p10 8).N (p10 8).C,.bool (!b)] (by kernel_rfl) (by kernel_rfl) ⟨⟨_,_,_,_,_,_,_,_,_,_,_,_,_,_,_,rfl,Mine.mono hG.2.2.2.2.2.2.2.2.2.2.2.2.2.2.2.2.2.1 z1,Mine.mono hG.2.2.2.2.2.2.2.2.2.2.2.2.2.2.2.1 z2,Mine.mono hG.2.2.1 z10,Mine.mono hG.1 z11,Mine.mono hG.2.2.2.2.2.1 z9⟩,hS.fr⟩
def c5 (B m1 m2 m3 m4 m5:Nat) (b:Bool):Cf:=⟨fun q=>.agg #[.slice q.A q.N q.C,.slice q.A' q.N' q.C',.slice q.A2 q.N2 q.C2,.slice q.A3 q.N3 q.C3,.slice q.A4 q.N4 q.C4,.bool b],fun q W=>Mine W B q.A q.N q.C m1∧Mine W B q.A' q.N' q.C' m2∧Mine W B q.A2 q.N2 q.C2 m3∧Mine W B q.A3 q.N3 q.C3 m4∧Mine W B q.A4 q.N4 q.C4 m5,fun _=>sta_and (sta_mine _ _ _ _ _) (sta_and (sta_mine _ _ _ _ _) (sta_and (sta_mine _ _ _ _ _) (sta_and (sta_mine _ _ _ _ _) (sta_mine _ _ _ _ _))))⟩
theorem as_5 {P:Program} {fn:FuncId} {args:Array Value} {W:World} {B m1 m2 m3 m4 m5:Nat} {b:Bool} (hb:B≤W.heap.size) (h:Calls P fn args W fun en W'=>(∃ A N C A' N' C' A2 N2 C2 A3 N3 C3 A4 N4 C4,en = .returned (.agg #[.slice A N C,.slice A' N' C',.slice A2 N2 C2,.slice A3 N3 C3,.slice A4 N4 C4,.bool b])∧Mine W' W.heap.size A N C m1∧Mine W' W.heap.size A' N' C' m2∧Mine W' W.heap.size A2 N2 C2 m3∧Mine W' W.heap.size A3 N3 C3 m4∧Mine W' W.heap.size A4 N4 C4 m5)∧Below W.heap.size W W'):Calls P fn args W fun en W'=>∃ q,en = .returned ((c5 B m1 m2 m3 m4 m5 b).f q)∧Below W.heap.size W W'∧(c5 B m1 m2 m3 m4 m5 b).g q W':=
 h.mono fun _ _ ⟨⟨a,n,c,a',n',c',a2,n2,c2,a3,n3,c3,a4,n4,c4,h1,k1,k2,k3,k4,k5⟩,h2⟩=>⟨{ pq0 with A:=a,N:=n,C:=c,A':=a',N':=n',C':=c',A2:=a2,N2:=n2,C2:=c2,A3:=a3,N3:=n3,C3:=c3,A4:=a4,N4:=n4,C4:=c4 },h1,h2,k1.mono hb,k2.mono hb,k3.mono hb,k4.mono hb,k5.mono hb⟩
def WSpl (p:Nat) (s t:Bool) (m1 d1 m2 d2 wa wb pa pb dn:Nat) (b:Bool):Prop:=∀ (W:World) (a1:Option Addr) (n1 c1:Nat) (a2:Option Addr) (n2 c2:Nat) (a3:Option Addr) (n3 c3:Nat) (a4:Option Addr) (n4 c4:Nat),Rz W p 0→Num W a1 n1 m1→Num W a2 n2 d1→Num W a3 n3 m2→Num W a4 n4 d2→Calls Tryz.prog 113 #[.pointer (some ⟨p,0,none⟩),.agg #[.bool s,.slice a1 n1 c1,.slice a2 n2 c2,.bool t,.slice a3 n3 c3,.slice a4 n4 c4]] W fun en W'=>(∃ A N C A' N' C' A2 N2 C2 A3 N3 C3 A4 N4 C4,en = .returned (.agg #[.slice A N C,.slice A' N' C',.slice A2 N2 C2,.slice A3 N3 C3,.slice A4 N4 C4,.bool b])∧Mine W' W.heap.size A N C wa∧Mine W' W.heap.size A' N' C' wb∧Mine W' W.heap.size A2 N2 C2 pa∧Mine W' W.heap.size A3 N3 C3 pb∧Mine W' W.heap.size A4 N4 C4 dn)∧Below W.heap.size W W'
def WFr (p:Nat) (s:Bool) (x y:Nat) (g:Bool):Prop:=∀ (W:World) (a:Option Addr) (n c:Nat) (a':Option Addr) (n' c':Nat),Rz W p 0→Num W a n x→Num W a' n' y→Calls Tryz.prog 70 #[.pointer (some ⟨p,0,none⟩),.bool s,.agg #[.slice a n c],.agg #[.slice a' n' c']] W fun en W'=>en = .returned (.tuple #[.agg #[.bool g,.slice a n c,.slice a' n' c'],.int .i64 0])∧Below W.heap.size W W'
theorem ztog_t (w:World) (p:Nat) (a1 a2 a3 a4:Option Addr) (n1 n2 n3 n4 c1 c2 c3 c4 m1 d1 m2 d2:Nat) (s g:Bool) (wa wb pa pb dn u v x y z:Nat) (hR:Rz w p 0) (h1:Num w a1 n1 m1) (h2:Num w a2 n2 d1) (h3:Num w a3 n3 m2) (h4:Num w a4 n4 d2) (HS:Hid (WSpl p s s m1 d1 m2 d2 wa wb pa pb dn true)) (H1:Hid (WTwo 114 p pa pb u)) (H2:Hid (WTwo 114 p u 1 v)) (H3:Hid (WTwo 114 p wa wb x)) (H4:Hid (WTwo 89 p x dn y)) (H5:Hid (WTwo 114 p v y z)) (HF:Hid (WFr p s z dn g))  :
  Calls Tryz.prog 87 #[.pointer (some ⟨p,0,none⟩),.agg #[.bool s,.slice a1 n1 c1,.slice a2 n2 c2,.bool s,.slice a3 n3 c3,.slice a4 n4 c4]] w fun en w'=>(∃ A N C A' N' C',en = .returned (.tuple #[.agg #[.bool g,.slice A N C,.slice A' N' C'],.int .i64 0])∧Mine w' w.heap.size A N C z∧Mine w' w.heap.size A' N' C' dn)∧Below w.heap.size w w':=by
 obtain ⟨cs9,t9_,hp,hp0⟩:=hR
 refine calls_sym Tryz.func87 rfl (by kernel_rfl) fun T hK=>?_
 replace hK:Kn T _ [(0,.pointer (some ⟨p,0,none⟩)),(1,.agg #[.bool s,.slice a1 n1 c1,.slice a2 n2 c2,.bool s,.slice a3 n3 c3,.slice a4 n4 c4])]:=hK
 have hS:=Fb.other hp
 have hG:GsAt [gN a1 n1 m1,gN a2 n2 d1,gN a3 n3 m2,gN a4 n4 d2] w:=⟨h1,h2,h3,h4,trivial⟩
 refine wq hS hG hK (fun p1=>[.n 3 #[.bool s,.slice a1 n1 c1,.slice a2 n2 c2,.bool s,.slice a3 n3 c3,.slice a4 n4 c4] 86,.n 4 #[.bool false,.slice none 0 0,.slice none 0 0] 28,.v 5 (.int .i64 0)]) (fun p1=>[(0,.pointer (some ⟨p,0,none⟩)),(3,pT (p1 0).N 0),(4,pT (p1 1).N 0),(5,.int .i64 0)]) (fun p1=>?_) (fun p1 W1 T hF hK=>?_)
 ·iterate 2 refine okn ?_
  refine okv ?_
  exact ok_nil
 replace hS:=SymF.fc hS hF [0,1000,1001] [⟨p,cs9,t9_,false⟩,⟨(p1 0).N,#[.bool s,.slice a1 n1 c1,.slice a2 n2 c2,.bool s,.slice a3 n3 c3,.slice a4 n4 c4],86,true⟩,⟨(p1 1).N,#[.bool false,.slice none 0 0,.slice none 0 0],28,true⟩]
 replace hG:=hF.gx
 clear hF
 have z1:=hS.fr.size
 refine wq hS hG hK (fun p2=>[.v 8 (.pointer (some ⟨p,0,none⟩)),.l 9 (.agg #[.bool s,.slice a1 n1 c1,.slice a2 n2 c2,.bool s,.slice a3 n3 c3,.slice a4 n4 c4]) 1 0,.c (some 10) (c5 W1.heap.size wa wb pa pb dn true),.n 6 #[.slice none 0 0,.slice none 0 0,.slice none 0 0,.slice none 0 0,.slice none 0 0,.bool false] 147,.p 1003 0 [.slice (p2 2).A (p2 2).N (p2 2).C,.slice (p2 2).A' (p2 2).N' (p2 2).C',.slice (p2 2).A2 (p2 2).N2 (p2 2).C2,.slice (p2 2).A3 (p2 2).N3 (p2 2).C3,.slice (p2 2).A4 (p2 2).N4 (p2 2).C4,.bool true]]) (fun p2=>[(0,.pointer (some ⟨p,0,none⟩)),(3,pT (p1 0).N 0),(4,pT (p1 1).N 0),(5,.int .i64 0),(6,pT (p2 3).N 0)]) (fun p2=>?_) (fun p2 W2 T hF hK=>?_)
 ·refine okv ?_
  refine okl ?_
  refine okc (fun W cx=>as_5 cx.hb (unhide HS _ _ _ c1 _ _ c2 _ _ c3 _ _ c4 ⟨_,_,cx.B 0 _ rfl (by kernel_rfl) (by kernel_rfl),hp0⟩ (cx.G.1) (cx.G.2.1) (cx.G.2.2.1) (cx.G.2.2.2.1))) ?_
  refine okn ?_
  refine okp ?_
  exact ok_nil
 replace hS:=SymF.fc hS hF [0,1,2,1003] [⟨p,cs9,t9_,false⟩,⟨(p1 0).N,#[.bool s,.slice a1 n1 c1,.slice a2 n2 c2,.bool s,.slice a3 n3 c3,.slice a4 n4 c4],86,true⟩,⟨(p1 1).N,#[.bool false,.slice none 0 0,.slice none 0 0],28,true⟩,⟨(p2 3).N,#[.slice (p2 2).A (p2 2).N (p2 2).C,.slice (p2 2).A' (p2 2).N' (p2 2).C',.slice (p2 2).A2 (p2 2).N2 (p2 2).C2,.slice (p2 2).A3 (p2 2).N3 (p2 2).C3,.slice (p2 2).A4 (p2 2).N4 (p2 2).C4,.bool true],147,true⟩]
 replace hG:GsAt (gM W1.heap.size (p2 2).A (p2 2).N (p2 2).C wa :: gM W1.heap.size (p2 2).A' (p2 2).N' (p2 2).C' wb :: gM W1.heap.size (p2 2).A2 (p2 2).N2 (p2 2).C2 pa :: gM W1.heap.size (p2 2).A3 (p2 2).N3 (p2 2).C3 pb :: gM W1.heap.size (p2 2).A4 (p2 2).N4 (p2 2).C4 dn :: _) W2:=⟨(hF.fx 2).1,(hF.fx 2).2.1,(hF.fx 2).2.2.1,(hF.fx 2).2.2.2.1,(hF.fx 2).2.2.2.2,hF.gx⟩
 clear hF
 refine wq hS hG hK (fun p3=>[.v 11 (.pointer (some ⟨p,0,none⟩)),.v 12 (pT (p2 3).N 2),.l 13 (.agg #[.slice (p2 2).A2 (p2 2).N2 (p2 2).C2]) 3 2,.v 14 (pT (p2 3).N 3),.l 15 (.agg #[.slice (p2 2).A3 (p2 2).N3 (p2 2).C3]) 3 3,.c (some 16) (cN W2.heap.size u),.n 7 #[.slice none 0 0] 26,.p 1006 0 [.slice (p3 5).A (p3 5).N (p3 5).C]]) (fun p3=>[(0,.pointer (some ⟨p,0,none⟩)),(3,pT (p1 0).N 0),(4,pT (p1 1).N 0),(5,.int .i64 0),(6,pT (p2 3).N 0),(7,pT (p3 6).N 0)]) (fun p3=>?_) (fun p3 W3 T hF hK=>?_)
 ·iterate 2 refine okv ?_
  refine okl ?_
  refine okv ?_
  refine okl ?_
  refine okc (fun W cx=>as_n cx.hb (unhide H1 _ _ _ (p2 2).C2 _ _ (p2 2).C3 ⟨_,_,cx.B 0 _ rfl (by kernel_rfl) (by kernel_rfl),hp0⟩ (Mine.num cx.G.2.2.1) (Mine.num cx.G.2.2.2.1))) ?_
  refine okn ?_
  refine okp ?_
  exact ok_nil
 replace hS:=SymF.fc hS hF [0,1,2,3,1006] [⟨p,cs9,t9_,false⟩,⟨(p1 0).N,#[.bool s,.slice a1 n1 c1,.slice a2 n2 c2,.bool s,.slice a3 n3 c3,.slice a4 n4 c4],86,true⟩,⟨(p1 1).N,#[.bool false,.slice none 0 0,.slice none 0 0],28,true⟩,⟨(p2 3).N,#[.slice (p2 2).A (p2 2).N (p2 2).C,.slice (p2 2).A' (p2 2).N' (p2 2).C',.slice (p2 2).A2 (p2 2).N2 (p2 2).C2,.slice (p2 2).A3 (p2 2).N3 (p2 2).C3,.slice (p2 2).A4 (p2 2).N4 (p2 2).C4,.bool true],147,true⟩,⟨(p3 6).N,#[.slice (p3 5).A (p3 5).N (p3 5).C],26,true⟩]
 replace hG:GsAt (gM W2.heap.size (p3 5).A (p3 5).N (p3 5).C u :: _) W3:=⟨hF.fx 5,hF.gx⟩
 clear hF
 refine wp_seq ?_
 refine wq hS hG hK (fun p4=>[.v 17 (pT (p2 3).N 5),.l 18 (.bool true) 3 5]) (fun p4=>[(0,.pointer (some ⟨p,0,none⟩)),(3,pT (p1 0).N 0),(4,pT (p1 1).N 0),(5,.int .i64 0),(6,pT (p2 3).N 0),(7,pT (p3 6).N 0),(18,.bool true)]) (fun p4=>?_) (fun p4 W4 T hF hK=>?_)
 ·refine okv ?_
  refine okl ?_
  exact ok_nil
 obtain ⟨hS,hG⟩:=SymF.fg hS hF
 clear hF
 refine wp_cond_true (hK.ew 18) ?_
 refine wg hS hG hK (fun p5=>[.v 19 (.pointer (some ⟨p,0,none⟩)),.l 20 (.agg #[.slice (p3 5).A (p3 5).N (p3 5).C]) 4 0,.c (some 21) (cN W4.heap.size 1),.c (some 22) (cN W4.heap.size v),.p 4 0 [.slice (p5 3).A (p5 3).N (p5 3).C]]) (fun p5=>[(0,.pointer (some ⟨p,0,none⟩)),(3,pT (p1 0).N 0),(4,pT (p1 1).N 0),(5,.int .i64 0),(6,pT (p2 3).N 0),(7,pT (p3 6).N 0)]) (fun p5=>?_) (fun p5 W5 T hF hK=>?_)
 ·refine okv ?_
  refine okl ?_
  refine okc (fun W cx=>as_n cx.hb (of_any 1 _ (by decide))) ?_
  refine okc (fun W cx=>as_n cx.hb (unhide H2 _ _ _ (p3 5).C _ _ (p5 2).C ⟨_,_,cx.B 0 _ rfl (by kernel_rfl) (by kernel_rfl),hp0⟩ (Mine.num cx.G.1) (Mine.num (cx.F 2 (by kernel_rfl))))) ?_
  refine okp ?_
  exact ok_nil
 replace hS:=SymF.fc hS hF [0,1,2,3,4] [⟨p,cs9,t9_,false⟩,⟨(p1 0).N,#[.bool s,.slice a1 n1 c1,.slice a2 n2 c2,.bool s,.slice a3 n3 c3,.slice a4 n4 c4],86,true⟩,⟨(p1 1).N,#[.bool false,.slice none 0 0,.slice none 0 0],28,true⟩,⟨(p2 3).N,#[.slice (p2 2).A (p2 2).N (p2 2).C,.slice (p2 2).A' (p2 2).N' (p2 2).C',.slice (p2 2).A2 (p2 2).N2 (p2 2).C2,.slice (p2 2).A3 (p2 2).N3 (p2 2).C3,.slice (p2 2).A4 (p2 2).N4 (p2 2).C4,.bool true],147,true⟩,⟨(p3 6).N,#[.slice (p5 3).A (p5 3).N (p5 3).C],26,true⟩]
 replace hG:GsAt (gM W4.heap.size (p5 2).A (p5 2).N (p5 2).C 1 :: gM W4.heap.size (p5 3).A (p5 3).N (p5 3).C v :: _) W5:=⟨hF.fx 2,hF.fx 3,hF.gx⟩
 clear hF
 have z5:=hS.fr.size
 refine then_n ?_
 refine wq hS hG hK (fun p6=>[.v 23 (.pointer (some ⟨p,0,none⟩)),.l 24 (.agg #[.slice (p5 3).A (p5 3).N (p5 3).C]) 4 0,.v 25 (.pointer (some ⟨p,0,none⟩)),.v 26 (.pointer (some ⟨p,0,none⟩)),.v 27 (pT (p2 3).N 0),.l 28 (.agg #[.slice (p2 2).A (p2 2).N (p2 2).C]) 3 0,.v 29 (pT (p2 3).N 1),.l 30 (.agg #[.slice (p2 2).A' (p2 2).N' (p2 2).C']) 3 1,.c (some 31) (cN W5.heap.size x),.v 32 (pT (p2 3).N 4),.l 33 (.agg #[.slice (p2 2).A4 (p2 2).N4 (p2 2).C4]) 3 4,.c (some 34) (cN W5.heap.size y),.c (some 35) (cN W5.heap.size z),.p 4 0 [.slice (p6 12).A (p6 12).N (p6 12).C]]) (fun p6=>[(0,.pointer (some ⟨p,0,none⟩)),(3,pT (p1 0).N 0),(4,pT (p1 1).N 0),(5,.int .i64 0),(6,pT (p2 3).N 0),(7,pT (p3 6).N 0)]) (fun p6=>?_) (fun p6 W6 T hF hK=>?_)
 ·refine okv ?_
  refine okl ?_
  iterate 3 refine okv ?_
  refine okl ?_
  refine okv ?_
  refine okl ?_
  refine okc (fun W cx=>as_n cx.hb (unhide H3 _ _ _ (p2 2).C _ _ (p2 2).C' ⟨_,_,cx.B 0 _ rfl (by kernel_rfl) (by kernel_rfl),hp0⟩ (Mine.num cx.G.2.2.2.1) (Mine.num cx.G.2.2.2.2.1))) ?_
  refine okv ?_
  refine okl ?_
  refine okc (fun W cx=>as_n cx.hb (unhide H4 _ _ _ (p6 8).C _ _ (p2 2).C4 ⟨_,_,cx.B 0 _ rfl (by kernel_rfl) (by kernel_rfl),hp0⟩ (Mine.num (cx.F 8 (by kernel_rfl))) (Mine.num cx.G.2.2.2.2.2.2.2.1))) ?_
  refine okc (fun W cx=>as_n cx.hb (unhide H5 _ _ _ (p5 3).C _ _ (p6 11).C ⟨_,_,cx.B 0 _ rfl (by kernel_rfl) (by kernel_rfl),hp0⟩ (Mine.num cx.G.2.1) (Mine.num (cx.F 11 (by kernel_rfl))))) ?_
  refine okp ?_
  exact ok_nil
 replace hS:=SymF.fc hS hF [0,1,2,3,4] [⟨p,cs9,t9_,false⟩,⟨(p1 0).N,#[.bool s,.slice a1 n1 c1,.slice a2 n2 c2,.bool s,.slice a3 n3 c3,.slice a4 n4 c4],86,true⟩,⟨(p1 1).N,#[.bool false,.slice none 0 0,.slice none 0 0],28,true⟩,⟨(p2 3).N,#[.slice (p2 2).A (p2 2).N (p2 2).C,.slice (p2 2).A' (p2 2).N' (p2 2).C',.slice (p2 2).A2 (p2 2).N2 (p2 2).C2,.slice (p2 2).A3 (p2 2).N3 (p2 2).C3,.slice (p2 2).A4 (p2 2).N4 (p2 2).C4,.bool true],147,true⟩,⟨(p3 6).N,#[.slice (p6 12).A (p6 12).N (p6 12).C],26,true⟩]
 replace hG:GsAt (gM W5.heap.size (p6 8).A (p6 8).N (p6 8).C x :: gM W5.heap.size (p6 11).A (p6 11).N (p6 11).C y :: gM W5.heap.size (p6 12).A (p6 12).N (p6 12).C z :: _) W6:=⟨hF.fx 8,hF.fx 11,hF.fx 12,hF.gx⟩
 clear hF
 refine wq hS hG hK (fun p7=>[.v 36 (.pointer (some ⟨p,0,none⟩)),.v 37 (pT (p1 0).N 0),.v 38 (pT (p1 0).N 0),.l 39 (.bool s) 1 0,.l 40 (.agg #[.slice (p6 12).A (p6 12).N (p6 12).C]) 4 0,.v 41 (pT (p2 3).N 4),.l 42 (.agg #[.slice (p2 2).A4 (p2 2).N4 (p2 2).C4]) 3 4,.c (some 43) (cV (.tuple #[.agg #[.bool g,.slice (p6 12).A (p6 12).N (p6 12).C,.slice (p2 2).A4 (p2 2).N4 (p2 2).C4],.int .i64 0])),.v 44 (.agg #[.bool g,.slice (p6 12).A (p6 12).N (p6 12).C,.slice (p2 2).A4 (p2 2).N4 (p2 2).C4]),.v 45 (.int .i64 0),.p 2 0 [.bool g,.slice (p6 12).A (p6 12).N (p6 12).C,.slice (p2 2).A4 (p2 2).N4 (p2 2).C4],.v 5 (.int .i64 0)]) (fun p7=>[(4,pT (p1 1).N 0),(5,.int .i64 0)]) (fun p7=>?_) (fun p7 W7 T hF hK=>?_)
 ·iterate 3 refine okv ?_
  iterate 2 refine okl ?_
  refine okv ?_
  refine okl ?_
  refine okc (fun W cx=>as_v (unhide HF _ _ _ (p6 12).C _ _ (p2 2).C4 ⟨_,_,cx.B 0 _ rfl (by kernel_rfl) (by kernel_rfl),hp0⟩ (Mine.num cx.G.2.2.1) (Mine.num cx.G.2.2.2.2.2.2.2.2.2.2.1))) ?_
  iterate 2 refine okv ?_
  refine okp ?_
  refine okv ?_
  exact ok_nil
 replace hS:=SymF.fc hS hF [0,2] [⟨p,cs9,t9_,false⟩,⟨(p1 1).N,#[.bool g,.slice (p6 12).A (p6 12).N (p6 12).C,.slice (p2 2).A4 (p2 2).N4 (p2 2).C4],28,true⟩]
 replace hG:=hF.gx
 clear hF
 refine wp_ret ?_
 exact sym_end hS hK (.tuple #[.agg #[.bool g,.slice (p6 12).A (p6 12).N (p6 12).C,.slice (p2 2).A4 (p2 2).N4 (p2 2).C4],.int .i64 0]) [(1,0,3)] [.bool g,.slice (p6 12).A (p6 12).N (p6 12).C,.slice (p2 2).A4 (p2 2).N4 (p2 2).C4] (by kernel_rfl) (by kernel_rfl) ⟨⟨_,_,_,_,_,_,rfl,Mine.mono hG.2.2.1 z5,Mine.mono hG.2.2.2.2.2.2.2.2.2.2.1 z1⟩,hS.fr⟩
theorem ztog_f (w:World) (p:Nat) (a1 a2 a3 a4:Option Addr) (n1 n2 n3 n4 c1 c2 c3 c4 m1 d1 m2 d2:Nat) (s g:Bool) (wa wb pa pb dn u x y z:Nat) (hR:Rz w p 0) (h1:Num w a1 n1 m1) (h2:Num w a2 n2 d1) (h3:Num w a3 n3 m2) (h4:Num w a4 n4 d2) (HS:Hid (WSpl p s s m1 d1 m2 d2 wa wb pa pb dn false)) (H1:Hid (WTwo 114 p pa pb u)) (H3:Hid (WTwo 114 p wa wb x)) (H4:Hid (WTwo 89 p x dn y)) (H5:Hid (WTwo 114 p u y z)) (HF:Hid (WFr p s z dn g))  :
  Calls Tryz.prog 87 #[.pointer (some ⟨p,0,none⟩),.agg #[.bool s,.slice a1 n1 c1,.slice a2 n2 c2,.bool s,.slice a3 n3 c3,.slice a4 n4 c4]] w fun en w'=>(∃ A N C A' N' C',en = .returned (.tuple #[.agg #[.bool g,.slice A N C,.slice A' N' C'],.int .i64 0])∧Mine w' w.heap.size A N C z∧Mine w' w.heap.size A' N' C' dn)∧Below w.heap.size w w':=by
 obtain ⟨cs9,t9_,hp,hp0⟩:=hR
 refine calls_sym Tryz.func87 rfl (by kernel_rfl) fun T hK=>?_
 replace hK:Kn T _ [(0,.pointer (some ⟨p,0,none⟩)),(1,.agg #[.bool s,.slice a1 n1 c1,.slice a2 n2 c2,.bool s,.slice a3 n3 c3,.slice a4 n4 c4])]:=hK
 have hS:=Fb.other hp
 have hG:GsAt [gN a1 n1 m1,gN a2 n2 d1,gN a3 n3 m2,gN a4 n4 d2] w:=⟨h1,h2,h3,h4,trivial⟩
 refine wq hS hG hK (fun p1=>[.n 3 #[.bool s,.slice a1 n1 c1,.slice a2 n2 c2,.bool s,.slice a3 n3 c3,.slice a4 n4 c4] 86,.n 4 #[.bool false,.slice none 0 0,.slice none 0 0] 28,.v 5 (.int .i64 0)]) (fun p1=>[(0,.pointer (some ⟨p,0,none⟩)),(3,pT (p1 0).N 0),(4,pT (p1 1).N 0),(5,.int .i64 0)]) (fun p1=>?_) (fun p1 W1 T hF hK=>?_)
 ·iterate 2 refine okn ?_
  refine okv ?_
  exact ok_nil
 replace hS:=SymF.fc hS hF [0,1000,1001] [⟨p,cs9,t9_,false⟩,⟨(p1 0).N,#[.bool s,.slice a1 n1 c1,.slice a2 n2 c2,.bool s,.slice a3 n3 c3,.slice a4 n4 c4],86,true⟩,⟨(p1 1).N,#[.bool false,.slice none 0 0,.slice none 0 0],28,true⟩]
 replace hG:=hF.gx
 clear hF
 have z1:=hS.fr.size
 refine wq hS hG hK (fun p2=>[.v 8 (.pointer (some ⟨p,0,none⟩)),.l 9 (.agg #[.bool s,.slice a1 n1 c1,.slice a2 n2 c2,.bool s,.slice a3 n3 c3,.slice a4 n4 c4]) 1 0,.c (some 10) (c5 W1.heap.size wa wb pa pb dn false),.n 6 #[.slice none 0 0,.slice none 0 0,.slice none 0 0,.slice none 0 0,.slice none 0 0,.bool false] 147,.p 1003 0 [.slice (p2 2).A (p2 2).N (p2 2).C,.slice (p2 2).A' (p2 2).N' (p2 2).C',.slice (p2 2).A2 (p2 2).N2 (p2 2).C2,.slice (p2 2).A3 (p2 2).N3 (p2 2).C3,.slice (p2 2).A4 (p2 2).N4 (p2 2).C4,.bool false]]) (fun p2=>[(0,.pointer (some ⟨p,0,none⟩)),(3,pT (p1 0).N 0),(4,pT (p1 1).N 0),(5,.int .i64 0),(6,pT (p2 3).N 0)]) (fun p2=>?_) (fun p2 W2 T hF hK=>?_)
 ·refine okv ?_
  refine okl ?_
  refine okc (fun W cx=>as_5 cx.hb (unhide HS _ _ _ c1 _ _ c2 _ _ c3 _ _ c4 ⟨_,_,cx.B 0 _ rfl (by kernel_rfl) (by kernel_rfl),hp0⟩ (cx.G.1) (cx.G.2.1) (cx.G.2.2.1) (cx.G.2.2.2.1))) ?_
  refine okn ?_
  refine okp ?_
  exact ok_nil
 replace hS:=SymF.fc hS hF [0,1,2,1003] [⟨p,cs9,t9_,false⟩,⟨(p1 0).N,#[.bool s,.slice a1 n1 c1,.slice a2 n2 c2,.bool s,.slice a3 n3 c3,.slice a4 n4 c4],86,true⟩,⟨(p1 1).N,#[.bool false,.slice none 0 0,.slice none 0 0],28,true⟩,⟨(p2 3).N,#[.slice (p2 2).A (p2 2).N (p2 2).C,.slice (p2 2).A' (p2 2).N' (p2 2).C',.slice (p2 2).A2 (p2 2).N2 (p2 2).C2,.slice (p2 2).A3 (p2 2).N3 (p2 2).C3,.slice (p2 2).A4 (p2 2).N4 (p2 2).C4,.bool false],147,true⟩]
 replace hG:GsAt (gM W1.heap.size (p2 2).A (p2 2).N (p2 2).C wa :: gM W1.heap.size (p2 2).A' (p2 2).N' (p2 2).C' wb :: gM W1.heap.size (p2 2).A2 (p2 2).N2 (p2 2).C2 pa :: gM W1.heap.size (p2 2).A3 (p2 2).N3 (p2 2).C3 pb :: gM W1.heap.size (p2 2).A4 (p2 2).N4 (p2 2).C4 dn :: _) W2:=⟨(hF.fx 2).1,(hF.fx 2).2.1,(hF.fx 2).2.2.1,(hF.fx 2).2.2.2.1,(hF.fx 2).2.2.2.2,hF.gx⟩
 clear hF
 refine wq hS hG hK (fun p3=>[.v 11 (.pointer (some ⟨p,0,none⟩)),.v 12 (pT (p2 3).N 2),.l 13 (.agg #[.slice (p2 2).A2 (p2 2).N2 (p2 2).C2]) 3 2,.v 14 (pT (p2 3).N 3),.l 15 (.agg #[.slice (p2 2).A3 (p2 2).N3 (p2 2).C3]) 3 3,.c (some 16) (cN W2.heap.size u),.n 7 #[.slice none 0 0] 26,.p 1006 0 [.slice (p3 5).A (p3 5).N (p3 5).C]]) (fun p3=>[(0,.pointer (some ⟨p,0,none⟩)),(3,pT (p1 0).N 0),(4,pT (p1 1).N 0),(5,.int .i64 0),(6,pT (p2 3).N 0),(7,pT (p3 6).N 0)]) (fun p3=>?_) (fun p3 W3 T hF hK=>?_)
 ·iterate 2 refine okv ?_
  refine okl ?_
  refine okv ?_
  refine okl ?_
  refine okc (fun W cx=>as_n cx.hb (unhide H1 _ _ _ (p2 2).C2 _ _ (p2 2).C3 ⟨_,_,cx.B 0 _ rfl (by kernel_rfl) (by kernel_rfl),hp0⟩ (Mine.num cx.G.2.2.1) (Mine.num cx.G.2.2.2.1))) ?_
  refine okn ?_
  refine okp ?_
  exact ok_nil
 replace hS:=SymF.fc hS hF [0,1,2,3,1006] [⟨p,cs9,t9_,false⟩,⟨(p1 0).N,#[.bool s,.slice a1 n1 c1,.slice a2 n2 c2,.bool s,.slice a3 n3 c3,.slice a4 n4 c4],86,true⟩,⟨(p1 1).N,#[.bool false,.slice none 0 0,.slice none 0 0],28,true⟩,⟨(p2 3).N,#[.slice (p2 2).A (p2 2).N (p2 2).C,.slice (p2 2).A' (p2 2).N' (p2 2).C',.slice (p2 2).A2 (p2 2).N2 (p2 2).C2,.slice (p2 2).A3 (p2 2).N3 (p2 2).C3,.slice (p2 2).A4 (p2 2).N4 (p2 2).C4,.bool false],147,true⟩,⟨(p3 6).N,#[.slice (p3 5).A (p3 5).N (p3 5).C],26,true⟩]
 replace hG:GsAt (gM W2.heap.size (p3 5).A (p3 5).N (p3 5).C u :: _) W3:=⟨hF.fx 5,hF.gx⟩
 clear hF
 refine wp_seq ?_
 refine wq hS hG hK (fun p4=>[.v 17 (pT (p2 3).N 5),.l 18 (.bool false) 3 5]) (fun p4=>[(0,.pointer (some ⟨p,0,none⟩)),(3,pT (p1 0).N 0),(4,pT (p1 1).N 0),(5,.int .i64 0),(6,pT (p2 3).N 0),(7,pT (p3 6).N 0),(18,.bool false)]) (fun p4=>?_) (fun p4 W4 T hF hK=>?_)
 ·refine okv ?_
  refine okl ?_
  exact ok_nil
 obtain ⟨hS,hG⟩:=SymF.fg hS hF
 clear hF
 have z4:=hS.fr.size
 refine wp_cond_false (hK.ew 18) (wp_skip (then_n ?_))
 refine wq hS hG hK (fun p5=>[.v 23 (.pointer (some ⟨p,0,none⟩)),.l 24 (.agg #[.slice (p3 5).A (p3 5).N (p3 5).C]) 4 0,.v 25 (.pointer (some ⟨p,0,none⟩)),.v 26 (.pointer (some ⟨p,0,none⟩)),.v 27 (pT (p2 3).N 0),.l 28 (.agg #[.slice (p2 2).A (p2 2).N (p2 2).C]) 3 0,.v 29 (pT (p2 3).N 1),.l 30 (.agg #[.slice (p2 2).A' (p2 2).N' (p2 2).C']) 3 1,.c (some 31) (cN W4.heap.size x),.v 32 (pT (p2 3).N 4),.l 33 (.agg #[.slice (p2 2).A4 (p2 2).N4 (p2 2).C4]) 3 4,.c (some 34) (cN W4.heap.size y),.c (some 35) (cN W4.heap.size z),.p 4 0 [.slice (p5 12).A (p5 12).N (p5 12).C]]) (fun p5=>[(0,.pointer (some ⟨p,0,none⟩)),(3,pT (p1 0).N 0),(4,pT (p1 1).N 0),(5,.int .i64 0),(6,pT (p2 3).N 0),(7,pT (p3 6).N 0)]) (fun p5=>?_) (fun p5 W5 T hF hK=>?_)
 ·refine okv ?_
  refine okl ?_
  iterate 3 refine okv ?_
  refine okl ?_
  refine okv ?_
  refine okl ?_
  refine okc (fun W cx=>as_n cx.hb (unhide H3 _ _ _ (p2 2).C _ _ (p2 2).C' ⟨_,_,cx.B 0 _ rfl (by kernel_rfl) (by kernel_rfl),hp0⟩ (Mine.num cx.G.2.1) (Mine.num cx.G.2.2.1))) ?_
  refine okv ?_
  refine okl ?_
  refine okc (fun W cx=>as_n cx.hb (unhide H4 _ _ _ (p5 8).C _ _ (p2 2).C4 ⟨_,_,cx.B 0 _ rfl (by kernel_rfl) (by kernel_rfl),hp0⟩ (Mine.num (cx.F 8 (by kernel_rfl))) (Mine.num cx.G.2.2.2.2.2.1))) ?_
  refine okc (fun W cx=>as_n cx.hb (unhide H5 _ _ _ (p3 5).C _ _ (p5 11).C ⟨_,_,cx.B 0 _ rfl (by kernel_rfl) (by kernel_rfl),hp0⟩ (Mine.num cx.G.1) (Mine.num (cx.F 11 (by kernel_rfl))))) ?_
  refine okp ?_
  exact ok_nil
 replace hS:=SymF.fc hS hF [0,1,2,3,4] [⟨p,cs9,t9_,false⟩,⟨(p1 0).N,#[.bool s,.slice a1 n1 c1,.slice a2 n2 c2,.bool s,.slice a3 n3 c3,.slice a4 n4 c4],86,true⟩,⟨(p1 1).N,#[.bool false,.slice none 0 0,.slice none 0 0],28,true⟩,⟨(p2 3).N,#[.slice (p2 2).A (p2 2).N (p2 2).C,.slice (p2 2).A' (p2 2).N' (p2 2).C',.slice (p2 2).A2 (p2 2).N2 (p2 2).C2,.slice (p2 2).A3 (p2 2).N3 (p2 2).C3,.slice (p2 2).A4 (p2 2).N4 (p2 2).C4,.bool false],147,true⟩,⟨(p3 6).N,#[.slice (p5 12).A (p5 12).N (p5 12).C],26,true⟩]
 replace hG:GsAt (gM W4.heap.size (p5 8).A (p5 8).N (p5 8).C x :: gM W4.heap.size (p5 11).A (p5 11).N (p5 11).C y :: gM W4.heap.size (p5 12).A (p5 12).N (p5 12).C z :: _) W5:=⟨hF.fx 8,hF.fx 11,hF.fx 12,hF.gx⟩
 clear hF
 refine wq hS hG hK (fun p6=>[.v 36 (.pointer (some ⟨p,0,none⟩)),.v 37 (pT (p1 0).N 0),.v 38 (pT (p1 0).N 0),.l 39 (.bool s) 1 0,.l 40 (.agg #[.slice (p5 12).A (p5 12).N (p5 12).C]) 4 0,.v 41 (pT (p2 3).N 4),.l 42 (.agg #[.slice (p2 2).A4 (p2 2).N4 (p2 2).C4]) 3 4,.c (some 43) (cV (.tuple #[.agg #[.bool g,.slice (p5 12).A (p5 12).N (p5 12).C,.slice (p2 2).A4 (p2 2).N4 (p2 2).C4],.int .i64 0])),.v 44 (.agg #[.bool g,.slice (p5 12).A (p5 12).N (p5 12).C,.slice (p2 2).A4 (p2 2).N4 (p2 2).C4]),.v 45 (.int .i64 0),.p 2 0 [.bool g,.slice (p5 12).A (p5 12).N (p5 12).C,.slice (p2 2).A4 (p2 2).N4 (p2 2).C4],.v 5 (.int .i64 0)]) (fun p6=>[(0,.pointer (some ⟨p,0,none⟩)),(4,pT (p1 1).N 0),(5,.int .i64 0),(7,pT (p3 6).N 0)]) (fun p6=>?_) (fun p6 W6 T hF hK=>?_)
 ·iterate 3 refine okv ?_
  iterate 2 refine okl ?_
  refine okv ?_
  refine okl ?_
  refine okc (fun W cx=>as_v (unhide HF _ _ _ (p5 12).C _ _ (p2 2).C4 ⟨_,_,cx.B 0 _ rfl (by kernel_rfl) (by kernel_rfl),hp0⟩ (Mine.num cx.G.2.2.1) (Mine.num cx.G.2.2.2.2.2.2.2.2.1))) ?_
  iterate 2 refine okv ?_
  refine okp ?_
  refine okv ?_
  exact ok_nil
 replace hS:=SymF.fc hS hF [0,2,4] [⟨p,cs9,t9_,false⟩,⟨(p1 1).N,#[.bool g,.slice (p5 12).A (p5 12).N (p5 12).C,.slice (p2 2).A4 (p2 2).N4 (p2 2).C4],28,true⟩,⟨(p3 6).N,#[.slice (p5 12).A (p5 12).N (p5 12).C],26,true⟩]
 replace hG:=hF.gx
 clear hF
 refine wp_ret ?_
 exact sym_end hS hK (.tuple #[.agg #[.bool g,.slice (p5 12).A (p5 12).N (p5 12).C,.slice (p2 2).A4 (p2 2).N4 (p2 2).C4],.int .i64 0]) [(1,0,3)] [.bool g,.slice (p5 12).A (p5 12).N (p5 12).C,.slice (p2 2).A4 (p2 2).N4 (p2 2).C4] (by kernel_rfl) (by kernel_rfl) ⟨⟨_,_,_,_,_,_,rfl,Mine.mono hG.2.2.1 z4,Mine.mono hG.2.2.2.2.2.2.2.2.1 z1⟩,hS.fr⟩
end Go.Proofs.YtpmmapoabbpaiaaGreat
