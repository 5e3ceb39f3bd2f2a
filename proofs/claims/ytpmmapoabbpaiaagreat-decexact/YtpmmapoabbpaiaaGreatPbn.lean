/- Of what DecExactRow stands on: RyMake RbMul RbMulN RbAdd RzDif RyCmp. -/
import Derived.Test.YtpmmapoabbpaiaaGreatPbm
import Derived.Test.YtpmmapoabbpaiaaGreatPap
import Derived.Test.YtpmmapoabbpaiaaGreatPai
namespace Go.Proofs.YtpmmapoabbpaiaaGreat
open Go.RowKit
set_option maxHeartbeats 2000000
set_option maxRecDepth 20000
def aFr (t:Bool) (a:Array Value):Value:=match a.getD 2 undef,a.getD 3 undef with
 | .agg x,.agg y=>.tuple #[.agg #[.bool t,x.getD 0 undef,y.getD 0 undef],.int .i64 0]
 | _,_=>undef
theorem zmake_is (w:World) (s t:Bool) (a1 a2:Option Addr) (n1 n2 c1 c2 x y g u v:Nat) (h1:Num w a1 n1 x) (h2:Num w a2 n2 y) (hy:y≠0) (HG:∀ p:Nat,Hid (WTwo 69 p x y g)) (HA:∀ p:Nat,Hid (WTwo 71 p x g u)) (HB:∀ p:Nat,Hid (WTwo 71 p y g v)) (HF:∀ p:Nat,Hid (WFr p s u v t)) :
  Calls Tryz.prog 28 #[.bool s,.agg #[.slice a1 n1 c1],.agg #[.slice a2 n2 c2]] w fun en w'=>(∃ A N C A' N' C',en = .returned (.tuple #[.agg #[.bool t,.slice A N C,.slice A' N' C'],.int .i64 0])∧Mine w' w.heap.size A N C u∧Mine w' w.heap.size A' N' C' v)∧Below w.heap.size w w':=by
 refine calls_sym Tryz.func28 rfl (by kernel_rfl) fun T hK=>?_
 replace hK:Kn T _ [(0,.bool s),(1,.agg #[.slice a1 n1 c1]),(2,.agg #[.slice a2 n2 c2])]:=hK
 have hS:=Fb.begin w
 have hG:GsAt [gN a1 n1 x,gN a2 n2 y] w:=⟨h1,h2,trivial⟩
 refine wq hS hG hK (fun p1=>[.n 4 #[.slice a1 n1 c1] 26,.n 5 #[.slice a2 n2 c2] 26,.n 6 #[.bool false,.slice none 0 0,.slice none 0 0] 28,.v 7 (.int .i64 0)]) (fun p1=>[(0,.bool s),(4,pT (p1 0).N 0),(5,pT (p1 1).N 0),(6,pT (p1 2).N 0),(7,.int .i64 0)]) (fun p1=>?_) (fun p1 W1 T hF hK=>?_)
 ·iterate 3 refine okn ?_
  refine okv ?_
  exact ok_nil
 replace hS:=SymF.fc hS hF [1000,1001,1002] [⟨(p1 0).N,#[.slice a1 n1 c1],26,true⟩,⟨(p1 1).N,#[.slice a2 n2 c2],26,true⟩,⟨(p1 2).N,#[.bool false,.slice none 0 0,.slice none 0 0],28,true⟩]
 replace hG:=hF.gx
 clear hF
 refine wp_seq ?_
 refine wq hS hG hK (fun p2=>[.l 12 (.agg #[.slice a1 n1 c1]) 0 0,.c (some 13) (cV (.int .i64 0)),.v 8 (.int .i64 0)]) (fun p2=>[(0,.bool s),(4,pT (p1 0).N 0),(5,pT (p1 1).N 0),(6,pT (p1 2).N 0),(7,.int .i64 0),(8,.int .i64 0)]) (fun p2=>?_) (fun p2 W2 T hF hK=>?_)
 ·refine okl ?_
  refine okc (fun W cx=>as_v (check_num _ _ c1 _ _ (cx.G.1))) ?_
  refine okv ?_
  exact ok_nil
 obtain ⟨hS,hG⟩:=SymF.fg hS hF
 clear hF
 refine wq hS hG hK (fun p3=>[.v 14 (.int .i64 0),.v 15 (.bool false)]) (fun p3=>[(0,.bool s),(4,pT (p1 0).N 0),(5,pT (p1 1).N 0),(6,pT (p1 2).N 0),(7,.int .i64 0),(8,.int .i64 0),(15,.bool false)]) (fun p3=>?_) (fun p3 W3 T hF hK=>?_)
 ·iterate 2 refine okv ?_
  exact ok_nil
 obtain ⟨hS,hG⟩:=SymF.fg hS hF
 clear hF
 refine wp_cond_false (hK.ew 15) (wp_skip ?_)
 refine then_n (wp_seq ?_)
 refine wq hS hG hK (fun p4=>[.l 18 (.agg #[.slice a2 n2 c2]) 1 0,.c (some 19) (cV (.int .i64 0)),.v 9 (.int .i64 0)]) (fun p4=>[(0,.bool s),(4,pT (p1 0).N 0),(5,pT (p1 1).N 0),(6,pT (p1 2).N 0),(7,.int .i64 0),(8,.int .i64 0),(9,.int .i64 0),(15,.bool false)]) (fun p4=>?_) (fun p4 W4 T hF hK=>?_)
 ·refine okl ?_
  refine okc (fun W cx=>as_v (check_num _ _ c2 _ _ (cx.G.2.1))) ?_
  refine okv ?_
  exact ok_nil
 obtain ⟨hS,hG⟩:=SymF.fg hS hF
 clear hF
 refine wq hS hG hK (fun p5=>[.v 20 (.int .i64 0),.v 21 (.bool false)]) (fun p5=>[(0,.bool s),(4,pT (p1 0).N 0),(5,pT (p1 1).N 0),(6,pT (p1 2).N 0),(7,.int .i64 0),(8,.int .i64 0),(9,.int .i64 0),(15,.bool false),(21,.bool false)]) (fun p5=>?_) (fun p5 W5 T hF hK=>?_)
 ·iterate 2 refine okv ?_
  exact ok_nil
 obtain ⟨hS,hG⟩:=SymF.fg hS hF
 clear hF
 refine wp_cond_false (hK.ew 21) (wp_skip ?_)
 refine then_n (wp_seq ?_)
 refine wq hS hG hK (fun p6=>[.l 24 (.agg #[.slice a2 n2 c2]) 1 0,.c (some 25) (cV (.bool false))]) (fun p6=>[(0,.bool s),(4,pT (p1 0).N 0),(5,pT (p1 1).N 0),(6,pT (p1 2).N 0),(7,.int .i64 0),(8,.int .i64 0),(9,.int .i64 0),(15,.bool false),(21,.bool false),(25,.bool false)]) (fun p6=>?_) (fun p6 W6 T hF hK=>?_)
 ·refine okl ?_
  refine okc (fun W cx=>as_v (znought a2 _ c2 _ _ ((Num.zdec (cx.G.2.1)).trans (decide_eq_false hy)))) ?_
  exact ok_nil
 obtain ⟨hS,hG⟩:=SymF.fg hS hF
 clear hF
 refine wp_cond_false (hK.ew 25) (wp_skip (then_n ?_))
 refine wq hS hG hK (fun p7=>[.n 10 #[.int .i64 0] 110]) (fun p7=>[(0,.bool s),(4,pT (p1 0).N 0),(5,pT (p1 1).N 0),(6,pT (p1 2).N 0),(7,.int .i64 0),(8,.int .i64 0),(9,.int .i64 0),(10,pT (p7 0).N 0),(15,.bool false),(21,.bool false),(25,.bool false)]) (fun p7=>?_) (fun p7 W7 T hF hK=>?_)
 ·refine okn ?_
  exact ok_nil
 replace hS:=SymF.fc hS hF [0,1,2,1000] [⟨(p1 0).N,#[.slice a1 n1 c1],26,true⟩,⟨(p1 1).N,#[.slice a2 n2 c2],26,true⟩,⟨(p1 2).N,#[.bool false,.slice none 0 0,.slice none 0 0],28,true⟩,⟨(p7 0).N,#[.int .i64 0],110,true⟩]
 replace hG:=hF.gx
 clear hF
 refine wq hS hG hK (fun p8=>[.l 27 (.agg #[.slice a1 n1 c1]) 0 0,.l 28 (.agg #[.slice a2 n2 c2]) 1 0,.c (some 29) (cN W7.heap.size g),.n 11 #[.slice none 0 0] 26,.p 1003 0 [.slice (p8 2).A (p8 2).N (p8 2).C]]) (fun p8=>[(0,.bool s),(4,pT (p1 0).N 0),(5,pT (p1 1).N 0),(6,pT (p1 2).N 0),(7,.int .i64 0),(8,.int .i64 0),(9,.int .i64 0),(10,pT (p7 0).N 0),(11,pT (p8 3).N 0),(15,.bool false),(21,.bool false),(25,.bool false)]) (fun p8=>?_) (fun p8 W8 T hF hK=>?_)
 ·iterate 2 refine okl ?_
  refine okc (fun W cx=>as_n cx.hb (unhide (HG (p7 0).N) _ _ _ c1 _ _ c2 ⟨_,_,cx.B 3 _ rfl (by kernel_rfl) (by kernel_rfl),rfl⟩ (cx.G.1) (cx.G.2.1))) ?_
  refine okn ?_
  refine okp ?_
  exact ok_nil
 replace hS:=SymF.fc hS hF [0,1,2,3,1003] [⟨(p1 0).N,#[.slice a1 n1 c1],26,true⟩,⟨(p1 1).N,#[.slice a2 n2 c2],26,true⟩,⟨(p1 2).N,#[.bool false,.slice none 0 0,.slice none 0 0],28,true⟩,⟨(p7 0).N,#[.int .i64 0],110,true⟩,⟨(p8 3).N,#[.slice (p8 2).A (p8 2).N (p8 2).C],26,true⟩]
 replace hG:GsAt (gM W7.heap.size (p8 2).A (p8 2).N (p8 2).C g :: _) W8:=⟨hF.fx 2,hF.gx⟩
 clear hF
 have z8:=hS.fr.size
 refine wq hS hG hK (fun p9=>[.v 30 (.bool s),.l 31 (.agg #[.slice a1 n1 c1]) 0 0,.l 32 (.agg #[.slice (p8 2).A (p8 2).N (p8 2).C]) 4 0,.c (some 33) (cN W8.heap.size u),.l 34 (.agg #[.slice a2 n2 c2]) 1 0,.l 35 (.agg #[.slice (p8 2).A (p8 2).N (p8 2).C]) 4 0,.c (some 36) (cN W8.heap.size v),.u 37 (.tuple #[.agg #[.bool t,.slice (p9 3).A (p9 3).N (p9 3).C,.slice (p9 6).A (p9 6).N (p9 6).C],.int .i64 0]) (aFr t),.v 38 (.agg #[.bool t,.slice (p9 3).A (p9 3).N (p9 3).C,.slice (p9 6).A (p9 6).N (p9 6).C]),.v 39 (.int .i64 0),.p 2 0 [.bool t,.slice (p9 3).A (p9 3).N (p9 3).C,.slice (p9 6).A (p9 6).N (p9 6).C],.v 7 (.int .i64 0)]) (fun p9=>[(6,pT (p1 2).N 0),(7,.int .i64 0),(8,.int .i64 0),(9,.int .i64 0),(15,.bool false),(21,.bool false),(25,.bool false)]) (fun p9=>?_) (fun p9 W9 T hF hK=>?_)
 ·refine okv ?_
  iterate 2 refine okl ?_
  refine okc (fun W cx=>as_n cx.hb (unhide (HA (p7 0).N) _ _ _ c1 _ _ (p8 2).C ⟨_,_,cx.B 3 _ rfl (by kernel_rfl) (by kernel_rfl),rfl⟩ (cx.G.2.1) (Mine.num cx.G.1))) ?_
  iterate 2 refine okl ?_
  refine okc (fun W cx=>as_n cx.hb (unhide (HB (p7 0).N) _ _ _ c2 _ _ (p8 2).C ⟨_,_,cx.B 3 _ rfl (by kernel_rfl) (by kernel_rfl),rfl⟩ (cx.G.2.2.1) (Mine.num cx.G.1))) ?_
  refine oku (fun W cx=>unhide (HF (p7 0).N) _ _ _ (p9 3).C _ _ (p9 6).C ⟨_,_,cx.B 3 _ rfl (by kernel_rfl) (by kernel_rfl),rfl⟩ (Mine.num (cx.F 3 (by kernel_rfl))) (Mine.num (cx.F 6 (by kernel_rfl)))) ?_
  iterate 2 refine okv ?_
  refine okp ?_
  refine okv ?_
  exact ok_nil
 replace hS:=SymF.fc hS hF [2] [⟨(p1 2).N,#[.bool t,.slice (p9 3).A (p9 3).N (p9 3).C,.slice (p9 6).A (p9 6).N (p9 6).C],28,true⟩]
 replace hG:GsAt (gM W8.heap.size (p9 3).A (p9 3).N (p9 3).C u :: gM W8.heap.size (p9 6).A (p9 6).N (p9 6).C v :: _) W9:=⟨hF.fx 3,hF.fx 6,hF.gx⟩
 clear hF
 refine wp_ret ?_
 exact sym_end hS hK (.tuple #[.agg #[.bool t,.slice (p9 3).A (p9 3).N (p9 3).C,.slice (p9 6).A (p9 6).N (p9 6).C],.int .i64 0]) [(0,0,3)] [.bool t,.slice (p9 3).A (p9 3).N (p9 3).C,.slice (p9 6).A (p9 6).N (p9 6).C] (by kernel_rfl) (by kernel_rfl) ⟨⟨_,_,_,_,_,_,rfl,Mine.mono hG.1 z8,Mine.mono hG.2.1 z8⟩,hS.fr⟩
theorem ymake_any (s:Bool) (a1 a2:Option Addr) (n1 n2 c1 c2 x y:Nat) (w:World) (h1:Num w a1 n1 x) (h2:Num w a2 n2 y) (hy:0 < y) :
  Calls Tryz.prog 28 #[.bool s,.agg #[.slice a1 n1 c1],.agg #[.slice a2 n2 c2]] w fun en w'=>(∃ A N C A' N' C',en = .returned (.tuple #[.agg #[.bool (s && !decide (x / Nat.gcd x y = 0)),.slice A N C,.slice A' N' C'],.int .i64 0])∧Mine w' w.heap.size A N C (x / Nat.gcd x y)∧Mine w' w.heap.size A' N' C' (y / Nat.gcd x y))∧Below w.heap.size w w':=by
 have hg:0 < Nat.gcd x y:=Nat.gcd_pos_of_pos_right x hy
 exact zmake_is w s _ a1 a2 n1 n2 c1 c2 x y _ _ _ h1 h2 (by omega) (fun p=>hide (wgcd_ok p x y)) (fun p=>hide (wover_ok p x hg)) (fun p=>hide (wover_ok p y hg)) (fun p=>hide (wfr_ok p s _ _))
theorem zprod_is (w:World) (a1 a2 a3 a4:Option Addr) (n1 n2 n3 n4 c1 c2 c3 c4 m1 d1 m2 d2:Nat) (s t g:Bool) (e f u v x y z dn:Nat) (h1:Num w a1 n1 m1) (h2:Num w a2 n2 d1) (h3:Num w a3 n3 m2) (h4:Num w a4 n4 d2) (H1:∀ p:Nat,Hid (WTwo 69 p m1 d2 e)) (H2:∀ p:Nat,Hid (WTwo 69 p m2 d1 f)) (H3:∀ p:Nat,Hid (WTwo 71 p m1 e u)) (H4:∀ p:Nat,Hid (WTwo 71 p m2 f v)) (H5:∀ p:Nat,Hid (WTwo 89 p u v z)) (H6:∀ p:Nat,Hid (WTwo 71 p d1 f x)) (H7:∀ p:Nat,Hid (WTwo 71 p d2 e y)) (H8:∀ p:Nat,Hid (WTwo 89 p x y dn)) (HF:∀ p:Nat,Hid (WFr p (s != t) z dn g))  :
  Calls Tryz.prog 48 #[.agg #[.bool s,.slice a1 n1 c1,.slice a2 n2 c2,.bool t,.slice a3 n3 c3,.slice a4 n4 c4]] w fun en w'=>(∃ A N C A' N' C',en = .returned (.tuple #[.agg #[.bool g,.slice A N C,.slice A' N' C'],.int .i64 0])∧Mine w' w.heap.size A N C z∧Mine w' w.heap.size A' N' C' dn)∧Below w.heap.size w w':=by
 refine calls_sym Tryz.func48 rfl (by kernel_rfl) fun T hK=>?_
 replace hK:Kn T _ [(0,.agg #[.bool s,.slice a1 n1 c1,.slice a2 n2 c2,.bool t,.slice a3 n3 c3,.slice a4 n4 c4])]:=hK
 have hS:=Fb.begin w
 have hG:GsAt [gN a1 n1 m1,gN a2 n2 d1,gN a3 n3 m2,gN a4 n4 d2] w:=⟨h1,h2,h3,h4,trivial⟩
 refine wq hS hG hK (fun p1=>[.n 1 #[.bool s,.slice a1 n1 c1,.slice a2 n2 c2,.bool t,.slice a3 n3 c3,.slice a4 n4 c4] 86,.n 2 #[.bool false,.slice none 0 0,.slice none 0 0] 28,.v 3 (.int .i64 0)]) (fun p1=>[(1,pT (p1 0).N 0),(2,pT (p1 1).N 0),(3,.int .i64 0)]) (fun p1=>?_) (fun p1 W1 T hF hK=>?_)
 ·iterate 2 refine okn ?_
  refine okv ?_
  exact ok_nil
 replace hS:=SymF.fc hS hF [1000,1001] [⟨(p1 0).N,#[.bool s,.slice a1 n1 c1,.slice a2 n2 c2,.bool t,.slice a3 n3 c3,.slice a4 n4 c4],86,true⟩,⟨(p1 1).N,#[.bool false,.slice none 0 0,.slice none 0 0],28,true⟩]
 replace hG:=hF.gx
 clear hF
 refine wq hS hG hK (fun p2=>[.n 4 #[.int .i64 0] 110]) (fun p2=>[(1,pT (p1 0).N 0),(2,pT (p1 1).N 0),(3,.int .i64 0),(4,pT (p2 0).N 0)]) (fun p2=>?_) (fun p2 W2 T hF hK=>?_)
 ·refine okn ?_
  exact ok_nil
 replace hS:=SymF.fc hS hF [0,1,1000] [⟨(p1 0).N,#[.bool s,.slice a1 n1 c1,.slice a2 n2 c2,.bool t,.slice a3 n3 c3,.slice a4 n4 c4],86,true⟩,⟨(p1 1).N,#[.bool false,.slice none 0 0,.slice none 0 0],28,true⟩,⟨(p2 0).N,#[.int .i64 0],110,true⟩]
 replace hG:=hF.gx
 clear hF
 refine wq hS hG hK (fun p3=>[.v 9 (pT (p1 0).N 0),.v 10 (pT (p1 0).N 1),.l 11 (.agg #[.slice a1 n1 c1]) 0 1,.v 12 (pT (p1 0).N 3),.v 13 (pT (p1 0).N 5),.l 14 (.agg #[.slice a4 n4 c4]) 0 5,.c (some 15) (cN W2.heap.size e),.v 16 (pT (p1 0).N 3),.v 17 (pT (p1 0).N 4),.l 18 (.agg #[.slice a3 n3 c3]) 0 4,.v 19 (pT (p1 0).N 0),.v 20 (pT (p1 0).N 2),.l 21 (.agg #[.slice a2 n2 c2]) 0 2,.c (some 22) (cN W2.heap.size f),.n 5 #[.slice none 0 0] 26,.n 6 #[.slice none 0 0] 26,.p 1014 0 [.slice (p3 6).A (p3 6).N (p3 6).C],.p 1015 0 [.slice (p3 13).A (p3 13).N (p3 13).C]]) (fun p3=>[(1,pT (p1 0).N 0),(2,pT (p1 1).N 0),(3,.int .i64 0),(4,pT (p2 0).N 0),(5,pT (p3 14).N 0),(6,pT (p3 15).N 0)]) (fun p3=>?_) (fun p3 W3 T hF hK=>?_)
 ·iterate 2 refine okv ?_
  refine okl ?_
  iterate 2 refine okv ?_
  refine okl ?_
  refine okc (fun W cx=>as_n cx.hb (unhide (H1 (p2 0).N) _ _ _ c1 _ _ c4 ⟨_,_,cx.B 2 _ rfl (by kernel_rfl) (by kernel_rfl),rfl⟩ (cx.G.1) (cx.G.2.2.2.1))) ?_
  iterate 2 refine okv ?_
  refine okl ?_
  iterate 2 refine okv ?_
  refine okl ?_
  refine okc (fun W cx=>as_n cx.hb (unhide (H2 (p2 0).N) _ _ _ c3 _ _ c2 ⟨_,_,cx.B 2 _ rfl (by kernel_rfl) (by kernel_rfl),rfl⟩ (cx.G.2.2.1) (cx.G.2.1))) ?_
  iterate 2 refine okn ?_
  iterate 2 refine okp ?_
  exact ok_nil
 replace hS:=SymF.fc hS hF [0,1,2,1014,1015] [⟨(p1 0).N,#[.bool s,.slice a1 n1 c1,.slice a2 n2 c2,.bool t,.slice a3 n3 c3,.slice a4 n4 c4],86,true⟩,⟨(p1 1).N,#[.bool false,.slice none 0 0,.slice none 0 0],28,true⟩,⟨(p2 0).N,#[.int .i64 0],110,true⟩,⟨(p3 14).N,#[.slice (p3 6).A (p3 6).N (p3 6).C],26,true⟩,⟨(p3 15).N,#[.slice (p3 13).A (p3 13).N (p3 13).C],26,true⟩]
 replace hG:GsAt (gM W2.heap.size (p3 6).A (p3 6).N (p3 6).C e :: gM W2.heap.size (p3 13).A (p3 13).N (p3 13).C f :: _) W3:=⟨hF.fx 6,hF.fx 13,hF.gx⟩
 clear hF
 have z3:=hS.fr.size
 refine wq hS hG hK (fun p4=>[.v 23 (pT (p1 0).N 0),.v 24 (pT (p1 0).N 1),.l 25 (.agg #[.slice a1 n1 c1]) 0 1,.l 26 (.agg #[.slice (p3 6).A (p3 6).N (p3 6).C]) 3 0,.c (some 27) (cN W3.heap.size u),.v 28 (pT (p1 0).N 3),.v 29 (pT (p1 0).N 4),.l 30 (.agg #[.slice a3 n3 c3]) 0 4,.l 31 (.agg #[.slice (p3 13).A (p3 13).N (p3 13).C]) 4 0,.c (some 32) (cN W3.heap.size v),.c (some 33) (cN W3.heap.size z),.n 7 #[.slice none 0 0] 26,.p 1011 0 [.slice (p4 10).A (p4 10).N (p4 10).C]]) (fun p4=>[(1,pT (p1 0).N 0),(2,pT (p1 1).N 0),(3,.int .i64 0),(4,pT (p2 0).N 0),(5,pT (p3 14).N 0),(6,pT (p3 15).N 0),(7,pT (p4 11).N 0)]) (fun p4=>?_) (fun p4 W4 T hF hK=>?_)
 ·iterate 2 refine okv ?_
  iterate 2 refine okl ?_
  refine okc (fun W cx=>as_n cx.hb (unhide (H3 (p2 0).N) _ _ _ c1 _ _ (p3 6).C ⟨_,_,cx.B 2 _ rfl (by kernel_rfl) (by kernel_rfl),rfl⟩ (cx.G.2.2.1) (Mine.num cx.G.1))) ?_
  iterate 2 refine okv ?_
  iterate 2 refine okl ?_
  refine okc (fun W cx=>as_n cx.hb (unhide (H4 (p2 0).N) _ _ _ c3 _ _ (p3 13).C ⟨_,_,cx.B 2 _ rfl (by kernel_rfl) (by kernel_rfl),rfl⟩ (cx.G.2.2.2.2.1) (Mine.num cx.G.2.1))) ?_
  refine okc (fun W cx=>as_n cx.hb (unhide (H5 (p2 0).N) _ _ _ (p4 4).C _ _ (p4 9).C ⟨_,_,cx.B 2 _ rfl (by kernel_rfl) (by kernel_rfl),rfl⟩ (Mine.num (cx.F 4 (by kernel_rfl))) (Mine.num (cx.F 9 (by kernel_rfl))))) ?_
  refine okn ?_
  refine okp ?_
  exact ok_nil
 replace hS:=SymF.fc hS hF [0,1,2,3,4,1011] [⟨(p1 0).N,#[.bool s,.slice a1 n1 c1,.slice a2 n2 c2,.bool t,.slice a3 n3 c3,.slice a4 n4 c4],86,true⟩,⟨(p1 1).N,#[.bool false,.slice none 0 0,.slice none 0 0],28,true⟩,⟨(p2 0).N,#[.int .i64 0],110,true⟩,⟨(p3 14).N,#[.slice (p3 6).A (p3 6).N (p3 6).C],26,true⟩,⟨(p3 15).N,#[.slice (p3 13).A (p3 13).N (p3 13).C],26,true⟩,⟨(p4 11).N,#[.slice (p4 10).A (p4 10).N (p4 10).C],26,true⟩]
 replace hG:GsAt (gM W3.heap.size (p4 4).A (p4 4).N (p4 4).C u :: gM W3.heap.size (p4 9).A (p4 9).N (p4 9).C v :: gM W3.heap.size (p4 10).A (p4 10).N (p4 10).C z :: _) W4:=⟨hF.fx 4,hF.fx 9,hF.fx 10,hF.gx⟩
 clear hF
 have z4:=hS.fr.size
 refine wq hS hG hK (fun p5=>[.v 34 (pT (p1 0).N 0),.v 35 (pT (p1 0).N 2),.l 36 (.agg #[.slice a2 n2 c2]) 0 2,.l 37 (.agg #[.slice (p3 13).A (p3 13).N (p3 13).C]) 4 0,.c (some 38) (cN W4.heap.size x),.v 39 (pT (p1 0).N 3),.v 40 (pT (p1 0).N 5),.l 41 (.agg #[.slice a4 n4 c4]) 0 5,.l 42 (.agg #[.slice (p3 6).A (p3 6).N (p3 6).C]) 3 0,.c (some 43) (cN W4.heap.size y),.c (some 44) (cN W4.heap.size dn),.n 8 #[.slice none 0 0] 26,.p 1011 0 [.slice (p5 10).A (p5 10).N (p5 10).C]]) (fun p5=>[(1,pT (p1 0).N 0),(2,pT (p1 1).N 0),(3,.int .i64 0),(4,pT (p2 0).N 0),(7,pT (p4 11).N 0),(8,pT (p5 11).N 0)]) (fun p5=>?_) (fun p5 W5 T hF hK=>?_)
 ·iterate 2 refine okv ?_
  iterate 2 refine okl ?_
  refine okc (fun W cx=>as_n cx.hb (unhide (H6 (p2 0).N) _ _ _ c2 _ _ (p3 13).C ⟨_,_,cx.B 2 _ rfl (by kernel_rfl) (by kernel_rfl),rfl⟩ (cx.G.2.2.2.2.2.2.1) (Mine.num cx.G.2.2.2.2.1))) ?_
  iterate 2 refine okv ?_
  iterate 2 refine okl ?_
  refine okc (fun W cx=>as_n cx.hb (unhide (H7 (p2 0).N) _ _ _ c4 _ _ (p3 6).C ⟨_,_,cx.B 2 _ rfl (by kernel_rfl) (by kernel_rfl),rfl⟩ (cx.G.2.2.2.2.2.2.2.2.1) (Mine.num cx.G.2.2.2.1))) ?_
  refine okc (fun W cx=>as_n cx.hb (unhide (H8 (p2 0).N) _ _ _ (p5 4).C _ _ (p5 9).C ⟨_,_,cx.B 2 _ rfl (by kernel_rfl) (by kernel_rfl),rfl⟩ (Mine.num (cx.F 4 (by kernel_rfl))) (Mine.num (cx.F 9 (by kernel_rfl))))) ?_
  refine okn ?_
  refine okp ?_
  exact ok_nil
 replace hS:=SymF.fc hS hF [0,1,2,5,1011] [⟨(p1 0).N,#[.bool s,.slice a1 n1 c1,.slice a2 n2 c2,.bool t,.slice a3 n3 c3,.slice a4 n4 c4],86,true⟩,⟨(p1 1).N,#[.bool false,.slice none 0 0,.slice none 0 0],28,true⟩,⟨(p2 0).N,#[.int .i64 0],110,true⟩,⟨(p4 11).N,#[.slice (p4 10).A (p4 10).N (p4 10).C],26,true⟩,⟨(p5 11).N,#[.slice (p5 10).A (p5 10).N (p5 10).C],26,true⟩]
 replace hG:GsAt (gM W4.heap.size (p5 4).A (p5 4).N (p5 4).C x :: gM W4.heap.size (p5 9).A (p5 9).N (p5 9).C y :: gM W4.heap.size (p5 10).A (p5 10).N (p5 10).C dn :: _) W5:=⟨hF.fx 4,hF.fx 9,hF.fx 10,hF.gx⟩
 clear hF
 refine wq hS hG hK (fun p6=>[.v 45 (pT (p1 0).N 0),.v 46 (pT (p1 0).N 0),.l 47 (.bool s) 0 0,.v 48 (pT (p1 0).N 3),.v 49 (pT (p1 0).N 3),.l 50 (.bool t) 0 3,.v 51 (.bool (s != t)),.l 52 (.agg #[.slice (p4 10).A (p4 10).N (p4 10).C]) 3 0,.l 53 (.agg #[.slice (p5 10).A (p5 10).N (p5 10).C]) 4 0,.u 54 (.tuple #[.agg #[.bool g,.slice (p4 10).A (p4 10).N (p4 10).C,.slice (p5 10).A (p5 10).N (p5 10).C],.int .i64 0]) (aFr g),.v 55 (.agg #[.bool g,.slice (p4 10).A (p4 10).N (p4 10).C,.slice (p5 10).A (p5 10).N (p5 10).C]),.v 56 (.int .i64 0),.p 1 0 [.bool g,.slice (p4 10).A (p4 10).N (p4 10).C,.slice (p5 10).A (p5 10).N (p5 10).C],.v 3 (.int .i64 0)]) (fun p6=>[(2,pT (p1 1).N 0),(3,.int .i64 0)]) (fun p6=>?_) (fun p6 W6 T hF hK=>?_)
 ·iterate 2 refine okv ?_
  refine okl ?_
  iterate 2 refine okv ?_
  refine okl ?_
  refine okv ?_
  iterate 2 refine okl ?_
  refine oku (fun W cx=>unhide (HF (p2 0).N) _ _ _ (p4 10).C _ _ (p5 10).C ⟨_,_,cx.B 2 _ rfl (by kernel_rfl) (by kernel_rfl),rfl⟩ (Mine.num cx.G.2.2.2.2.2.1) (Mine.num cx.G.2.2.1)) ?_
  iterate 2 refine okv ?_
  refine okp ?_
  refine okv ?_
  exact ok_nil
 replace hS:=SymF.fc hS hF [1] [⟨(p1 1).N,#[.bool g,.slice (p4 10).A (p4 10).N (p4 10).C,.slice (p5 10).A (p5 10).N (p5 10).C],28,true⟩]
 replace hG:=hF.gx
 clear hF
 refine wp_ret ?_
 exact sym_end hS hK (.tuple #[.agg #[.bool g,.slice (p4 10).A (p4 10).N (p4 10).C,.slice (p5 10).A (p5 10).N (p5 10).C],.int .i64 0]) [(0,0,3)] [.bool g,.slice (p4 10).A (p4 10).N (p4 10).C,.slice (p5 10).A (p5 10).N (p5 10).C] (by kernel_rfl) (by kernel_rfl) ⟨⟨_,_,_,_,_,_,rfl,Mine.mono hG.2.2.2.2.2.1 z3,Mine.mono hG.2.2.1 z4⟩,hS.fr⟩
theorem zchd_mul (w:World) (a1 a2 a3 a4:Option Addr) (n1 n2 n3 n4 c1 c2 c3 c4 m1 d1 m2 d2:Nat) (s t g:Bool) (z dn:Nat) (h1:Num w a1 n1 m1) (h2:Num w a2 n2 d1) (h3:Num w a3 n3 m2) (h4:Num w a4 n4 d2) (C1:Hid (∀ W:World,Num W a1 n1 m1→Num W a2 n2 d1→Calls Tryz.prog 29 #[.agg #[.bool s,.slice a1 n1 c1,.slice a2 n2 c2]] W fun e W'=>e = .returned (.int .i64 0)∧Below W.heap.size W W')) (C2:Hid (∀ W:World,Num W a3 n3 m2→Num W a4 n4 d2→Calls Tryz.prog 29 #[.agg #[.bool t,.slice a3 n3 c3,.slice a4 n4 c4]] W fun e W'=>e = .returned (.int .i64 0)∧Below W.heap.size W W')) (HO:Hid (BSum 48 s t m1 d1 m2 d2 z dn g))  :
  Calls Tryz.prog 46 #[.agg #[.bool s,.slice a1 n1 c1,.slice a2 n2 c2,.bool t,.slice a3 n3 c3,.slice a4 n4 c4],.func (.func 48) #[.agg #[.bool s,.slice a1 n1 c1,.slice a2 n2 c2,.bool t,.slice a3 n3 c3,.slice a4 n4 c4]] #[]] w fun en w'=>(∃ A N C A' N' C',en = .returned (.tuple #[.agg #[.bool g,.slice A N C,.slice A' N' C'],.int .i64 0])∧Mine w' w.heap.size A N C z∧Mine w' w.heap.size A' N' C' dn)∧Below w.heap.size w w':=by
 refine calls_sym Tryz.func46 rfl (by kernel_rfl) fun T hK=>?_
 replace hK:Kn T _ [(0,.agg #[.bool s,.slice a1 n1 c1,.slice a2 n2 c2,.bool t,.slice a3 n3 c3,.slice a4 n4 c4]),(1,.func (.func 48) #[.agg #[.bool s,.slice a1 n1 c1,.slice a2 n2 c2,.bool t,.slice a3 n3 c3,.slice a4 n4 c4]] #[])]:=hK
 have hS:=Fb.begin w
 have hG:GsAt [gN a1 n1 m1,gN a2 n2 d1,gN a3 n3 m2,gN a4 n4 d2] w:=⟨h1,h2,h3,h4,trivial⟩
 refine wq hS hG hK (fun p1=>[.n 2 #[.bool s,.slice a1 n1 c1,.slice a2 n2 c2,.bool t,.slice a3 n3 c3,.slice a4 n4 c4] 86,.n 4 #[.bool false,.slice none 0 0,.slice none 0 0] 28,.v 5 (.int .i64 0)]) (fun p1=>[(1,.func (.func 48) #[.agg #[.bool s,.slice a1 n1 c1,.slice a2 n2 c2,.bool t,.slice a3 n3 c3,.slice a4 n4 c4]] #[]),(2,pT (p1 0).N 0),(4,pT (p1 1).N 0),(5,.int .i64 0)]) (fun p1=>?_) (fun p1 W1 T hF hK=>?_)
 ·iterate 2 refine okn ?_
  refine okv ?_
  exact ok_nil
 replace hS:=SymF.fc hS hF [1000,1001] [⟨(p1 0).N,#[.bool s,.slice a1 n1 c1,.slice a2 n2 c2,.bool t,.slice a3 n3 c3,.slice a4 n4 c4],86,true⟩,⟨(p1 1).N,#[.bool false,.slice none 0 0,.slice none 0 0],28,true⟩]
 replace hG:=hF.gx
 clear hF
 refine wp_seq ?_
 refine wq hS hG hK (fun p2=>[.l 7 (.agg #[.bool s,.slice a1 n1 c1,.slice a2 n2 c2,.bool t,.slice a3 n3 c3,.slice a4 n4 c4]) 0 0,.c (some 8) (cV (.int .i64 0)),.v 6 (.int .i64 0)]) (fun p2=>[(1,.func (.func 48) #[.agg #[.bool s,.slice a1 n1 c1,.slice a2 n2 c2,.bool t,.slice a3 n3 c3,.slice a4 n4 c4]] #[]),(4,pT (p1 1).N 0),(5,.int .i64 0),(6,.int .i64 0)]) (fun p2=>?_) (fun p2 W2 T hF hK=>?_)
 ·refine okl ?_
  refine okc (fun W cx=>as_v (zbck _ _ _ _ _ _ _ _ _ _ _ _ _ _ _ _ _ _ _ (cx.G.1) (cx.G.2.1) (cx.G.2.2.1) (cx.G.2.2.2.1) C1 C2)) ?_
  refine okv ?_
  exact ok_nil
 obtain ⟨hS,hG⟩:=SymF.fg hS hF
 clear hF
 refine wq hS hG hK (fun p3=>[.v 9 (.int .i64 0),.v 10 (.bool false)]) (fun p3=>[(1,.func (.func 48) #[.agg #[.bool s,.slice a1 n1 c1,.slice a2 n2 c2,.bool t,.slice a3 n3 c3,.slice a4 n4 c4]] #[]),(4,pT (p1 1).N 0),(5,.int .i64 0),(6,.int .i64 0),(10,.bool false)]) (fun p3=>?_) (fun p3 W3 T hF hK=>?_)
 ·iterate 2 refine okv ?_
  exact ok_nil
 obtain ⟨hS,hG⟩:=SymF.fg hS hF
 clear hF
 have z3:=hS.fr.size
 refine wp_cond_false (hK.ew 10) (wp_skip (then_n ?_))
 refine wq hS hG hK (fun p4=>[.v 13 (.func (.func 48) #[.agg #[.bool s,.slice a1 n1 c1,.slice a2 n2 c2,.bool t,.slice a3 n3 c3,.slice a4 n4 c4]] #[]),.c (some 14) (cH W3.heap.size z dn fun x9 y9=>.tuple #[.agg #[.bool g,x9,y9],.int .i64 0]),.v 15 (.agg #[.bool g,.slice (p4 1).A (p4 1).N (p4 1).C,.slice (p4 1).A' (p4 1).N' (p4 1).C']),.v 16 (.int .i64 0),.p 1 0 [.bool g,.slice (p4 1).A (p4 1).N (p4 1).C,.slice (p4 1).A' (p4 1).N' (p4 1).C'],.v 5 (.int .i64 0)]) (fun p4=>[(4,pT (p1 1).N 0),(5,.int .i64 0),(6,.int .i64 0)]) (fun p4=>?_) (fun p4 W4 T hF hK=>?_)
 ·refine okv ?_
  refine okc (fun W cx=>as_h cx.hb (unhide HO _ _ _ c1 _ _ c2 _ _ c3 _ _ c4 (cx.G.1) (cx.G.2.1) (cx.G.2.2.1) (cx.G.2.2.2.1))) ?_
  iterate 2 refine okv ?_
  refine okp ?_
  refine okv ?_
  exact ok_nil
 replace hS:=SymF.fc hS hF [1] [⟨(p1 1).N,#[.bool g,.slice (p4 1).A (p4 1).N (p4 1).C,.slice (p4 1).A' (p4 1).N' (p4 1).C'],28,true⟩]
 replace hG:GsAt (gM W3.heap.size (p4 1).A (p4 1).N (p4 1).C z :: gM W3.heap.size (p4 1).A' (p4 1).N' (p4 1).C' dn :: _) W4:=⟨And.left (hF.fx 1),And.right (hF.fx 1),hF.gx⟩
 clear hF
 refine wp_ret ?_
 exact sym_end hS hK (.tuple #[.agg #[.bool g,.slice (p4 1).A (p4 1).N (p4 1).C,.slice (p4 1).A' (p4 1).N' (p4 1).C'],.int .i64 0]) [(0,0,3)] [.bool g,.slice (p4 1).A (p4 1).N (p4 1).C,.slice (p4 1).A' (p4 1).N' (p4 1).C'] (by kernel_rfl) (by kernel_rfl) ⟨⟨_,_,_,_,_,_,rfl,Mine.mono hG.1 z3,Mine.mono hG.2.1 z3⟩,hS.fr⟩
theorem zmul_is (w:World) (a1 a2 a3 a4:Option Addr) (n1 n2 n3 n4 c1 c2 c3 c4 m1 d1 m2 d2:Nat) (s t g:Bool) (z dn:Nat) (h1:Num w a1 n1 m1) (h2:Num w a2 n2 d1) (h3:Num w a3 n3 m2) (h4:Num w a4 n4 d2) (C1:Hid (∀ W:World,Num W a1 n1 m1→Num W a2 n2 d1→Calls Tryz.prog 29 #[.agg #[.bool s,.slice a1 n1 c1,.slice a2 n2 c2]] W fun e W'=>e = .returned (.int .i64 0)∧Below W.heap.size W W')) (C2:Hid (∀ W:World,Num W a3 n3 m2→Num W a4 n4 d2→Calls Tryz.prog 29 #[.agg #[.bool t,.slice a3 n3 c3,.slice a4 n4 c4]] W fun e W'=>e = .returned (.int .i64 0)∧Below W.heap.size W W')) (HO:Hid (BSum 48 s t m1 d1 m2 d2 z dn g))  :
  Calls Tryz.prog 14 #[.agg #[.bool s,.slice a1 n1 c1,.slice a2 n2 c2],.agg #[.bool t,.slice a3 n3 c3,.slice a4 n4 c4]] w fun en w'=>(∃ A N C A' N' C',en = .returned (.tuple #[.agg #[.bool g,.slice A N C,.slice A' N' C'],.int .i64 0])∧Mine w' w.heap.size A N C z∧Mine w' w.heap.size A' N' C' dn)∧Below w.heap.size w w':=by
 refine calls_sym Tryz.func14 rfl (by kernel_rfl) fun T hK=>?_
 replace hK:Kn T _ [(0,.agg #[.bool s,.slice a1 n1 c1,.slice a2 n2 c2]),(1,.agg #[.bool t,.slice a3 n3 c3,.slice a4 n4 c4])]:=hK
 have hS:=Fb.begin w
 have hG:GsAt [gN a1 n1 m1,gN a2 n2 d1,gN a3 n3 m2,gN a4 n4 d2] w:=⟨h1,h2,h3,h4,trivial⟩
 refine wq hS hG hK (fun p1=>[.n 2 #[.bool s,.slice a1 n1 c1,.slice a2 n2 c2] 28,.n 3 #[.bool t,.slice a3 n3 c3,.slice a4 n4 c4] 28,.n 4 #[.bool false,.slice none 0 0,.slice none 0 0] 28,.v 5 (.int .i64 0)]) (fun p1=>[(2,pT (p1 0).N 0),(3,pT (p1 1).N 0),(4,pT (p1 2).N 0),(5,.int .i64 0)]) (fun p1=>?_) (fun p1 W1 T hF hK=>?_)
 ·iterate 3 refine okn ?_
  refine okv ?_
  exact ok_nil
 replace hS:=SymF.fc hS hF [1000,1001,1002] [⟨(p1 0).N,#[.bool s,.slice a1 n1 c1,.slice a2 n2 c2],28,true⟩,⟨(p1 1).N,#[.bool t,.slice a3 n3 c3,.slice a4 n4 c4],28,true⟩,⟨(p1 2).N,#[.bool false,.slice none 0 0,.slice none 0 0],28,true⟩]
 replace hG:=hF.gx
 clear hF
 refine wq hS hG hK (fun p2=>[.l 7 (.agg #[.bool s,.slice a1 n1 c1,.slice a2 n2 c2]) 0 0,.l 8 (.agg #[.bool t,.slice a3 n3 c3,.slice a4 n4 c4]) 1 0,.v 9 (.agg #[.bool s,.slice a1 n1 c1,.slice a2 n2 c2,.bool t,.slice a3 n3 c3,.slice a4 n4 c4]),.n 6 #[.bool false,.slice none 0 0,.slice none 0 0,.bool false,.slice none 0 0,.slice none 0 0] 86,.p 1003 0 [.bool s,.slice a1 n1 c1,.slice a2 n2 c2,.bool t,.slice a3 n3 c3,.slice a4 n4 c4]]) (fun p2=>[(4,pT (p1 2).N 0),(5,.int .i64 0),(6,pT (p2 3).N 0)]) (fun p2=>?_) (fun p2 W2 T hF hK=>?_)
 ·iterate 2 refine okl ?_
  refine okv ?_
  refine okn ?_
  refine okp ?_
  exact ok_nil
 replace hS:=SymF.fc hS hF [2,1003] [⟨(p1 2).N,#[.bool false,.slice none 0 0,.slice none 0 0],28,true⟩,⟨(p2 3).N,#[.bool s,.slice a1 n1 c1,.slice a2 n2 c2,.bool t,.slice a3 n3 c3,.slice a4 n4 c4],86,true⟩]
 replace hG:=hF.gx
 clear hF
 have z2:=hS.fr.size
 refine wq hS hG hK (fun p3=>[.l 10 (.agg #[.bool s,.slice a1 n1 c1,.slice a2 n2 c2,.bool t,.slice a3 n3 c3,.slice a4 n4 c4]) 1 0,.l 11 (.agg #[.bool s,.slice a1 n1 c1,.slice a2 n2 c2,.bool t,.slice a3 n3 c3,.slice a4 n4 c4]) 1 0,.v 12 (.func (.func 48) #[.agg #[.bool s,.slice a1 n1 c1,.slice a2 n2 c2,.bool t,.slice a3 n3 c3,.slice a4 n4 c4]] #[]),.c (some 13) (cH W2.heap.size z dn fun x9 y9=>.tuple #[.agg #[.bool g,x9,y9],.int .i64 0]),.v 14 (.agg #[.bool g,.slice (p3 3).A (p3 3).N (p3 3).C,.slice (p3 3).A' (p3 3).N' (p3 3).C']),.v 15 (.int .i64 0),.p 0 0 [.bool g,.slice (p3 3).A (p3 3).N (p3 3).C,.slice (p3 3).A' (p3 3).N' (p3 3).C'],.v 5 (.int .i64 0)]) (fun p3=>[(4,pT (p1 2).N 0),(5,.int .i64 0)]) (fun p3=>?_) (fun p3 W3 T hF hK=>?_)
 ·iterate 2 refine okl ?_
  refine okv ?_
  refine okc (fun W cx=>as_h cx.hb (zchd_mul _ _ _ _ _ _ _ _ _ _ _ _ _ _ _ _ _ _ _ _ _ _ (cx.G.1) (cx.G.2.1) (cx.G.2.2.1) (cx.G.2.2.2.1) C1 C2 HO)) ?_
  iterate 2 refine okv ?_
  refine okp ?_
  refine okv ?_
  exact ok_nil
 replace hS:=SymF.fc hS hF [0] [⟨(p1 2).N,#[.bool g,.slice (p3 3).A (p3 3).N (p3 3).C,.slice (p3 3).A' (p3 3).N' (p3 3).C'],28,true⟩]
 replace hG:GsAt (gM W2.heap.size (p3 3).A (p3 3).N (p3 3).C z :: gM W2.heap.size (p3 3).A' (p3 3).N' (p3 3).C' dn :: _) W3:=⟨And.left (hF.fx 3),And.right (hF.fx 3),hF.gx⟩
 clear hF
 refine wp_ret ?_
 exact sym_end hS hK (.tuple #[.agg #[.bool g,.slice (p3 3).A (p3 3).N (p3 3).C,.slice (p3 3).A' (p3 3).N' (p3 3).C'],.int .i64 0]) [(0,0,3)] [.bool g,.slice (p3 3).A (p3 3).N (p3 3).C,.slice (p3 3).A' (p3 3).N' (p3 3).C'] (by kernel_rfl) (by kernel_rfl) ⟨⟨_,_,_,_,_,_,rfl,Mine.mono hG.1 z2,Mine.mono hG.2.1 z2⟩,hS.fr⟩
theorem rb_over {v e:Nat} (h:v < 2 ^ e) (he:e≤524288):¬ Over v:=fun o=>by
 have h1:=o.le
 rw [show 4294967296 ^ Pl.top = 2 ^ (32 * Pl.top) by rw [Nat.pow_mul]] at h1
 have h3:e≤32 * Pl.top:=by have:=Pl.top_eq; omega
 exact absurd (Nat.lt_of_lt_of_le h (Nat.pow_le_pow_right (by decide) h3)) (Nat.not_lt.2 h1)
theorem rb_mul {a b j k:Nat} (ha:a < 2 ^ j) (hb:b < 2 ^ k):a * b < 2 ^ (j+k):=by
 rw [Nat.pow_add]; exact Nat.mul_lt_mul'' ha hb
theorem bmul_ok {x y:Rat} {s t:Bool} {m1 d1 m2 d2 j k:Nat} (hx:Rm.Q x s m1 d1) (hy:Rm.Q y t m2 d2) (b1:m1 < 2 ^ j) (b2:d1 < 2 ^ j) (b3:m2 < 2 ^ k) (b4:d2 < 2 ^ k) (hk:j+k≤100000) :
  ∃ g z dn,Rm.Q (x * y) g z dn∧z < 2 ^ (j+k)∧dn < 2 ^ (j+k)∧BSum 48 s t m1 d1 m2 d2 z dn g:=by
 have hf:0 < Nat.gcd m1 d2:=Nat.gcd_pos_of_pos_right _ hy.pos
 have hr:0 < Nat.gcd m2 d1:=Nat.gcd_pos_of_pos_right _ hx.pos
 have l1:m1 / Nat.gcd m1 d2 * (m2 / Nat.gcd m2 d1) < 2 ^ (j+k):=Nat.lt_of_le_of_lt (Nat.mul_le_mul (Nat.div_le_self _ _) (Nat.div_le_self _ _)) (rb_mul b1 b3)
 have l2:d1 / Nat.gcd m2 d1 * (d2 / Nat.gcd m1 d2) < 2 ^ (j+k):=Nat.lt_of_le_of_lt (Nat.mul_le_mul (Nat.div_le_self _ _) (Nat.div_le_self _ _)) (rb_mul b2 b4)
 refine ⟨_,_,_,hx.product hy,l1,l2,fun W a1 n1 c1 a2 n2 c2 a3 n3 c3 a4 n4 c4 h1 h2 h3 h4=>?_⟩
 exact zprod_is W a1 a2 a3 a4 n1 n2 n3 n4 c1 c2 c3 c4 m1 d1 m2 d2 s t _ _ _ _ _ _ _ _ _ h1 h2 h3 h4 (fun p=>hide (wgcd_ok p m1 d2)) (fun p=>hide (wgcd_ok p m2 d1)) (fun p=>hide (wover_ok p m1 hf)) (fun p=>hide (wover_ok p m2 hr)) (fun p=>hide (wmul_ok p (rb_over l1 (by omega)))) (fun p=>hide (wover_ok p d1 hr)) (fun p=>hide (wover_ok p d2 hf)) (fun p=>hide (wmul_ok p (rb_over l2 (by omega)))) (fun p=>hide (wfr_ok p _ _ _))
theorem zchd_add9 (w:World) (a1 a2 a3 a4:Option Addr) (n1 n2 n3 n4 c1 c2 c3 c4 m1 d1 m2 d2:Nat) (s t g:Bool) (z dn:Nat) (h1:Num w a1 n1 m1) (h2:Num w a2 n2 d1) (h3:Num w a3 n3 m2) (h4:Num w a4 n4 d2) (C1:Hid (∀ W:World,Num W a1 n1 m1→Num W a2 n2 d1→Calls Tryz.prog 29 #[.agg #[.bool s,.slice a1 n1 c1,.slice a2 n2 c2]] W fun e W'=>e = .returned (.int .i64 0)∧Below W.heap.size W W')) (C2:Hid (∀ W:World,Num W a3 n3 m2→Num W a4 n4 d2→Calls Tryz.prog 29 #[.agg #[.bool t,.slice a3 n3 c3,.slice a4 n4 c4]] W fun e W'=>e = .returned (.int .i64 0)∧Below W.heap.size W W')) (HO:Hid (BSum 47 s t m1 d1 m2 d2 z dn g))  :
  Calls Tryz.prog 46 #[.agg #[.bool s,.slice a1 n1 c1,.slice a2 n2 c2,.bool t,.slice a3 n3 c3,.slice a4 n4 c4],.func (.func 47) #[.agg #[.bool s,.slice a1 n1 c1,.slice a2 n2 c2,.bool t,.slice a3 n3 c3,.slice a4 n4 c4]] #[]] w fun en w'=>(∃ A N C A' N' C',en = .returned (.tuple #[.agg #[.bool g,.slice A N C,.slice A' N' C'],.int .i64 0])∧Mine w' w.heap.size A N C z∧Mine w' w.heap.size A' N' C' dn)∧Below w.heap.size w w':=by
 refine calls_sym Tryz.func46 rfl (by kernel_rfl) fun T hK=>?_
 replace hK:Kn T _ [(0,.agg #[.bool s,.slice a1 n1 c1,.slice a2 n2 c2,.bool t,.slice a3 n3 c3,.slice a4 n4 c4]),(1,.func (.func 47) #[.agg #[.bool s,.slice a1 n1 c1,.slice a2 n2 c2,.bool t,.slice a3 n3 c3,.slice a4 n4 c4]] #[])]:=hK
 have hS:=Fb.begin w
 have hG:GsAt [gN a1 n1 m1,gN a2 n2 d1,gN a3 n3 m2,gN a4 n4 d2] w:=⟨h1,h2,h3,h4,trivial⟩
 refine wq hS hG hK (fun p1=>[.n 2 #[.bool s,.slice a1 n1 c1,.slice a2 n2 c2,.bool t,.slice a3 n3 c3,.slice a4 n4 c4] 86,.n 4 #[.bool false,.slice none 0 0,.slice none 0 0] 28,.v 5 (.int .i64 0)]) (fun p1=>[(1,.func (.func 47) #[.agg #[.bool s,.slice a1 n1 c1,.slice a2 n2 c2,.bool t,.slice a3 n3 c3,.slice a4 n4 c4]] #[]),(2,pT (p1 0).N 0),(4,pT (p1 1).N 0),(5,.int .i64 0)]) (fun p1=>?_) (fun p1 W1 T hF hK=>?_)
 ·iterate 2 refine okn ?_
  refine okv ?_
  exact ok_nil
 replace hS:=SymF.fc hS hF [1000,1001] [⟨(p1 0).N,#[.bool s,.slice a1 n1 c1,.slice a2 n2 c2,.bool t,.slice a3 n3 c3,.slice a4 n4 c4],86,true⟩,⟨(p1 1).N,#[.bool false,.slice none 0 0,.slice none 0 0],28,true⟩]
 replace hG:=hF.gx
 clear hF
 refine wp_seq ?_
 refine wq hS hG hK (fun p2=>[.l 7 (.agg #[.bool s,.slice a1 n1 c1,.slice a2 n2 c2,.bool t,.slice a3 n3 c3,.slice a4 n4 c4]) 0 0,.c (some 8) (cV (.int .i64 0)),.v 6 (.int .i64 0)]) (fun p2=>[(1,.func (.func 47) #[.agg #[.bool s,.slice a1 n1 c1,.slice a2 n2 c2,.bool t,.slice a3 n3 c3,.slice a4 n4 c4]] #[]),(4,pT (p1 1).N 0),(5,.int .i64 0),(6,.int .i64 0)]) (fun p2=>?_) (fun p2 W2 T hF hK=>?_)
 ·refine okl ?_
  refine okc (fun W cx=>as_v (zbck _ _ _ _ _ _ _ _ _ _ _ _ _ _ _ _ _ _ _ (cx.G.1) (cx.G.2.1) (cx.G.2.2.1) (cx.G.2.2.2.1) C1 C2)) ?_
  refine okv ?_
  exact ok_nil
 obtain ⟨hS,hG⟩:=SymF.fg hS hF
 clear hF
 refine wq hS hG hK (fun p3=>[.v 9 (.int .i64 0),.v 10 (.bool false)]) (fun p3=>[(1,.func (.func 47) #[.agg #[.bool s,.slice a1 n1 c1,.slice a2 n2 c2,.bool t,.slice a3 n3 c3,.slice a4 n4 c4]] #[]),(4,pT (p1 1).N 0),(5,.int .i64 0),(6,.int .i64 0),(10,.bool false)]) (fun p3=>?_) (fun p3 W3 T hF hK=>?_)
 ·iterate 2 refine okv ?_
  exact ok_nil
 obtain ⟨hS,hG⟩:=SymF.fg hS hF
 clear hF
 have z3:=hS.fr.size
 refine wp_cond_false (hK.ew 10) (wp_skip (then_n ?_))
 refine wq hS hG hK (fun p4=>[.v 13 (.func (.func 47) #[.agg #[.bool s,.slice a1 n1 c1,.slice a2 n2 c2,.bool t,.slice a3 n3 c3,.slice a4 n4 c4]] #[]),.c (some 14) (cH W3.heap.size z dn fun x9 y9=>.tuple #[.agg #[.bool g,x9,y9],.int .i64 0]),.v 15 (.agg #[.bool g,.slice (p4 1).A (p4 1).N (p4 1).C,.slice (p4 1).A' (p4 1).N' (p4 1).C']),.v 16 (.int .i64 0),.p 1 0 [.bool g,.slice (p4 1).A (p4 1).N (p4 1).C,.slice (p4 1).A' (p4 1).N' (p4 1).C'],.v 5 (.int .i64 0)]) (fun p4=>[(4,pT (p1 1).N 0),(5,.int .i64 0),(6,.int .i64 0)]) (fun p4=>?_) (fun p4 W4 T hF hK=>?_)
 ·refine okv ?_
  refine okc (fun W cx=>as_h cx.hb (unhide HO _ _ _ c1 _ _ c2 _ _ c3 _ _ c4 (cx.G.1) (cx.G.2.1) (cx.G.2.2.1) (cx.G.2.2.2.1))) ?_
  iterate 2 refine okv ?_
  refine okp ?_
  refine okv ?_
  exact ok_nil
 replace hS:=SymF.fc hS hF [1] [⟨(p1 1).N,#[.bool g,.slice (p4 1).A (p4 1).N (p4 1).C,.slice (p4 1).A' (p4 1).N' (p4 1).C'],28,true⟩]
 replace hG:GsAt (gM W3.heap.size (p4 1).A (p4 1).N (p4 1).C z :: gM W3.heap.size (p4 1).A' (p4 1).N' (p4 1).C' dn :: _) W4:=⟨And.left (hF.fx 1),And.right (hF.fx 1),hF.gx⟩
 clear hF
 refine wp_ret ?_
 exact sym_end hS hK (.tuple #[.agg #[.bool g,.slice (p4 1).A (p4 1).N (p4 1).C,.slice (p4 1).A' (p4 1).N' (p4 1).C'],.int .i64 0]) [(0,0,3)] [.bool g,.slice (p4 1).A (p4 1).N (p4 1).C,.slice (p4 1).A' (p4 1).N' (p4 1).C'] (by kernel_rfl) (by kernel_rfl) ⟨⟨_,_,_,_,_,_,rfl,Mine.mono hG.1 z3,Mine.mono hG.2.1 z3⟩,hS.fr⟩
theorem zadd9_is (w:World) (a1 a2 a3 a4:Option Addr) (n1 n2 n3 n4 c1 c2 c3 c4 m1 d1 m2 d2:Nat) (s t g:Bool) (z dn:Nat) (h1:Num w a1 n1 m1) (h2:Num w a2 n2 d1) (h3:Num w a3 n3 m2) (h4:Num w a4 n4 d2) (C1:Hid (∀ W:World,Num W a1 n1 m1→Num W a2 n2 d1→Calls Tryz.prog 29 #[.agg #[.bool s,.slice a1 n1 c1,.slice a2 n2 c2]] W fun e W'=>e = .returned (.int .i64 0)∧Below W.heap.size W W')) (C2:Hid (∀ W:World,Num W a3 n3 m2→Num W a4 n4 d2→Calls Tryz.prog 29 #[.agg #[.bool t,.slice a3 n3 c3,.slice a4 n4 c4]] W fun e W'=>e = .returned (.int .i64 0)∧Below W.heap.size W W')) (HO:Hid (BSum 47 s t m1 d1 m2 d2 z dn g))  :
  Calls Tryz.prog 13 #[.agg #[.bool s,.slice a1 n1 c1,.slice a2 n2 c2],.agg #[.bool t,.slice a3 n3 c3,.slice a4 n4 c4]] w fun en w'=>(∃ A N C A' N' C',en = .returned (.tuple #[.agg #[.bool g,.slice A N C,.slice A' N' C'],.int .i64 0])∧Mine w' w.heap.size A N C z∧Mine w' w.heap.size A' N' C' dn)∧Below w.heap.size w w':=by
 refine calls_sym Tryz.func13 rfl (by kernel_rfl) fun T hK=>?_
 replace hK:Kn T _ [(0,.agg #[.bool s,.slice a1 n1 c1,.slice a2 n2 c2]),(1,.agg #[.bool t,.slice a3 n3 c3,.slice a4 n4 c4])]:=hK
 have hS:=Fb.begin w
 have hG:GsAt [gN a1 n1 m1,gN a2 n2 d1,gN a3 n3 m2,gN a4 n4 d2] w:=⟨h1,h2,h3,h4,trivial⟩
 refine wq hS hG hK (fun p1=>[.n 2 #[.bool s,.slice a1 n1 c1,.slice a2 n2 c2] 28,.n 3 #[.bool t,.slice a3 n3 c3,.slice a4 n4 c4] 28,.n 4 #[.bool false,.slice none 0 0,.slice none 0 0] 28,.v 5 (.int .i64 0)]) (fun p1=>[(2,pT (p1 0).N 0),(3,pT (p1 1).N 0),(4,pT (p1 2).N 0),(5,.int .i64 0)]) (fun p1=>?_) (fun p1 W1 T hF hK=>?_)
 ·iterate 3 refine okn ?_
  refine okv ?_
  exact ok_nil
 replace hS:=SymF.fc hS hF [1000,1001,1002] [⟨(p1 0).N,#[.bool s,.slice a1 n1 c1,.slice a2 n2 c2],28,true⟩,⟨(p1 1).N,#[.bool t,.slice a3 n3 c3,.slice a4 n4 c4],28,true⟩,⟨(p1 2).N,#[.bool false,.slice none 0 0,.slice none 0 0],28,true⟩]
 replace hG:=hF.gx
 clear hF
 refine wq hS hG hK (fun p2=>[.l 7 (.agg #[.bool s,.slice a1 n1 c1,.slice a2 n2 c2]) 0 0,.l 8 (.agg #[.bool t,.slice a3 n3 c3,.slice a4 n4 c4]) 1 0,.v 9 (.agg #[.bool s,.slice a1 n1 c1,.slice a2 n2 c2,.bool t,.slice a3 n3 c3,.slice a4 n4 c4]),.n 6 #[.bool false,.slice none 0 0,.slice none 0 0,.bool false,.slice none 0 0,.slice none 0 0] 86,.p 1003 0 [.bool s,.slice a1 n1 c1,.slice a2 n2 c2,.bool t,.slice a3 n3 c3,.slice a4 n4 c4]]) (fun p2=>[(4,pT (p1 2).N 0),(5,.int .i64 0),(6,pT (p2 3).N 0)]) (fun p2=>?_) (fun p2 W2 T hF hK=>?_)
 ·iterate 2 refine okl ?_
  refine okv ?_
  refine okn ?_
  refine okp ?_
  exact ok_nil
 replace hS:=SymF.fc hS hF [2,1003] [⟨(p1 2).N,#[.bool false,.slice none 0 0,.slice none 0 0],28,true⟩,⟨(p2 3).N,#[.bool s,.slice a1 n1 c1,.slice a2 n2 c2,.bool t,.slice a3 n3 c3,.slice a4 n4 c4],86,true⟩]
 replace hG:=hF.gx
 clear hF
 have z2:=hS.fr.size
 refine wq hS hG hK (fun p3=>[.l 10 (.agg #[.bool s,.slice a1 n1 c1,.slice a2 n2 c2,.bool t,.slice a3 n3 c3,.slice a4 n4 c4]) 1 0,.l 11 (.agg #[.bool s,.slice a1 n1 c1,.slice a2 n2 c2,.bool t,.slice a3 n3 c3,.slice a4 n4 c4]) 1 0,.v 12 (.func (.func 47) #[.agg #[.bool s,.slice a1 n1 c1,.slice a2 n2 c2,.bool t,.slice a3 n3 c3,.slice a4 n4 c4]] #[]),.c (some 13) (cH W2.heap.size z dn fun x9 y9=>.tuple #[.agg #[.bool g,x9,y9],.int .i64 0]),.v 14 (.agg #[.bool g,.slice (p3 3).A (p3 3).N (p3 3).C,.slice (p3 3).A' (p3 3).N' (p3 3).C']),.v 15 (.int .i64 0),.p 0 0 [.bool g,.slice (p3 3).A (p3 3).N (p3 3).C,.slice (p3 3).A' (p3 3).N' (p3 3).C'],.v 5 (.int .i64 0)]) (fun p3=>[(4,pT (p1 2).N 0),(5,.int .i64 0)]) (fun p3=>?_) (fun p3 W3 T hF hK=>?_)
 ·iterate 2 refine okl ?_
  refine okv ?_
  refine okc (fun W cx=>as_h cx.hb (zchd_add9 _ _ _ _ _ _ _ _ _ _ _ _ _ _ _ _ _ _ _ _ _ _ (cx.G.1) (cx.G.2.1) (cx.G.2.2.1) (cx.G.2.2.2.1) C1 C2 HO)) ?_
  iterate 2 refine okv ?_
  refine okp ?_
  refine okv ?_
  exact ok_nil
 replace hS:=SymF.fc hS hF [0] [⟨(p1 2).N,#[.bool g,.slice (p3 3).A (p3 3).N (p3 3).C,.slice (p3 3).A' (p3 3).N' (p3 3).C'],28,true⟩]
 replace hG:GsAt (gM W2.heap.size (p3 3).A (p3 3).N (p3 3).C z :: gM W2.heap.size (p3 3).A' (p3 3).N' (p3 3).C' dn :: _) W3:=⟨And.left (hF.fx 3),And.right (hF.fx 3),hF.gx⟩
 clear hF
 refine wp_ret ?_
 exact sym_end hS hK (.tuple #[.agg #[.bool g,.slice (p3 3).A (p3 3).N (p3 3).C,.slice (p3 3).A' (p3 3).N' (p3 3).C'],.int .i64 0]) [(0,0,3)] [.bool g,.slice (p3 3).A (p3 3).N (p3 3).C,.slice (p3 3).A' (p3 3).N' (p3 3).C'] (by kernel_rfl) (by kernel_rfl) ⟨⟨_,_,_,_,_,_,rfl,Mine.mono hG.1 z2,Mine.mono hG.2.1 z2⟩,hS.fr⟩
theorem wbel_ok (p wa wb pa pb:Nat):WBel p wa wb pa pb (decide (wa < wb∨wa = wb∧pa < pb)):=fun W a1 n1 c1 a2 n2 c2 a3 n3 c3 a4 n4 c4 a5 n5 c5 b hR h1 h2 h3 h4=>by
 by_cases he:wa = wb
 ·refine zbel_eq W p a1 a2 a3 a4 a5 n1 n2 n3 n4 n5 c1 c2 c3 c4 c5 wa wb pa pb b _ _ _ hR h1 h2 h3 h4 (hide (wcmp_ok p wa wb)) (by unfold cmpI; rw [if_neg (by omega),if_pos he]) (hide (wcmp_ok p pa pb)) ?_
  unfold cmpI
  by_cases hp:pa < pb
  ·rw [if_pos hp,decide_eq_true (p:=wa < wb∨wa = wb∧pa < pb) (Or.inr ⟨he,hp⟩)]; rfl
  ·rw [if_neg hp,decide_eq_false (p:=wa < wb∨wa = wb∧pa < pb) (by omega)]; split <;> rfl
 ·refine zbel_ne W p a1 a2 a3 a4 a5 n1 n2 n3 n4 n5 c1 c2 c3 c4 c5 wa wb pa pb b _ _ hR h1 h2 h3 h4 (hide (wcmp_ok p wa wb)) (by unfold cmpI; split <;> (try split) <;> first|decide|omega) ?_
  unfold cmpI
  by_cases hp:wa < wb
  ·rw [if_pos hp,decide_eq_true (p:=wa < wb∨wa = wb∧pa < pb) (Or.inl hp)]; rfl
  ·rw [if_neg hp,if_neg he,decide_eq_false (p:=wa < wb∨wa = wb∧pa < pb) (by omega)]; rfl
theorem zcI_lt {x y:Nat} (h:x < y):cmpI x y < 0:=by unfold cmpI; rw [if_pos h]; decide
theorem zcI_ge {x y:Nat} (h:y≤x):0≤cmpI x y:=by unfold cmpI; rw [if_neg (by omega)]; split <;> decide
theorem lex_ge {X1 X2 y1 y2 D:Nat} (hX:X2≤X1) (hy:y2≤y1):X1 * D+y1 - (X2 * D+y2) = (X1 - X2) * D+(y1 - y2):=by
 obtain ⟨k,rfl⟩:=Nat.exists_eq_add_of_le hX
 rw [Nat.add_mul,Nat.add_sub_cancel_left]; omega
theorem lex_lo {X1 X2 y1 y2 D:Nat} (hX:X2 < X1) (hD:y2 < D):X1 * D+y1 - (X2 * D+y2) = (X1 - X2 - 1) * D+(D - y2+y1 - 0):=by
 obtain ⟨k,rfl⟩:=Nat.exists_eq_add_of_le (show X2+1≤X1 from hX)
 have e:X2+1+k - X2 - 1 = k:=by omega
 rw [e,Nat.add_mul,Nat.add_mul,Nat.one_mul]; omega
theorem apa_ok {N m1 d1 m2 d2:Nat} (h:SmR N m1 d1 m2 d2) (hc1:Nat.gcd m1 d1 = 1) (hc2:Nat.gcd m2 d2 = 1) (p:Nat) (s t:Bool) (hst:(s == t) = false):WSum 88 p s t m1 d1 m2 d2 (Rm.dnum m1 d1 m2 d2) (Rm.sden false m1 d1 m2 d2) ((if Rm.low m1 d1 m2 d2 then t else s) && !decide (Rm.dnum m1 d1 m2 d2 = 0)):=fun W a1 n1 c1 a2 n2 c2 a3 n3 c3 a4 n4 c4 hR h1 h2 h3 h4=>by
 have h0:0 < N:=Nat.lt_of_lt_of_le h.p1 h.b
 obtain ⟨b1,b2,b3,b4,b5⟩:=h.parts false
 have hNN:=Nat.le_mul_of_pos_right (N * N) h0
 have hN1:N≤N * N:=Nat.le_mul_of_pos_right N h0
 have b7:N * (N * N) = N * N * N:=by rw [Nat.mul_comm]
 obtain ⟨_,_,_,_,_,_,_,_,_,_,P⟩:=Rm.parts false h.p1 h.p2 hc1 hc2
 have hA:=P.hA
 have hB:=P.hB
 have HS:=spl_d h p s t hst
 have HB:=wbel_ok p (m1 / d1) (m2 / d2) (Rm.partA false m1 d1 m2 d2) (Rm.partB false m1 d1 m2 d2)
 obtain ⟨wa,ea⟩:∃ wa,wa = m1 / d1:=⟨_,rfl⟩
 obtain ⟨wb,eb⟩:∃ wb,wb = m2 / d2:=⟨_,rfl⟩
 obtain ⟨pa,e1⟩:∃ pa,pa = Rm.partA false m1 d1 m2 d2:=⟨_,rfl⟩
 obtain ⟨pb,e2⟩:∃ pb,pb = Rm.partB false m1 d1 m2 d2:=⟨_,rfl⟩
 obtain ⟨dn,e3⟩:∃ dn,dn = Rm.sden false m1 d1 m2 d2:=⟨_,rfl⟩
 have hlw:Rm.low m1 d1 m2 d2↔(wa < wb∨wa = wb∧pa < pb):=by rw [ea,eb,e1,e2]; rfl
 have hdn:Rm.dnum m1 d1 m2 d2 = if Rm.low m1 d1 m2 d2 then wb * dn+pb - (wa * dn+pa) else wa * dn+pa - (wb * dn+pb):=by rw [ea,eb,e1,e2,e3]; rfl
 rw [← ea,← eb,← e1,← e2,← e3] at HS
 rw [← ea,← eb,← e1,← e2] at HB
 rw [← e1,← e3] at hA
 rw [← e2,← e3] at hB
 rw [← e1] at b1
 rw [← e2] at b2
 rw [← e3] at b3 ⊢
 rw [← ea] at b4
 rw [← eb] at b5
 have mulB:∀ X:Nat,X≤N→X * dn≤N * N * N:=fun X hX=>by rw [← b7]; exact Nat.mul_le_mul hX b3
 by_cases hlow:wa < wb∨wa = wb∧pa < pb
 ·rw [decide_eq_true hlow] at HB
  rw [if_pos (hlw.2 hlow)] at hdn ⊢
  rcases Nat.lt_or_ge pb pa with hy|hy
  ·have hX:wa < wb:=by omega
   have hz:=lex_lo (D:=dn) (y1:=pb) hX hA
   have m5:=mulB (wb - wa - 1) (by omega)
   rw [hz] at hdn
   have z7:=wadd_ok p (h.o ((wb - wa - 1) * dn+(dn - pa+pb - 0)) (by omega))
   rw [← hdn] at z7
   exact zapa_tl W p a1 a2 a3 a4 n1 n2 n3 n4 c1 c2 c3 c4 m1 d1 m2 d2 s t _ _ wa wb pa pb dn _ _ _ _ _ _ _ _ hR h1 h2 h3 h4 (hide HS) (hide HB) (hide (wsub_ok p (by omega))) (hide (wcmp_ok p pb pa)) (zcI_lt hy) (hide (wsub_ok p (by omega))) (hide (wsub_ok p (by omega))) (hide (wadd_ok p (h.o _ (by omega)))) (hide (wmul_ok p (h.o _ (by omega)))) (hide (wsub_ok p (Nat.zero_le _))) (hide z7) (hide (wfr_ok p t _ _))
  ·have hX:wa≤wb:=by omega
   have hz:=lex_ge (D:=dn) hX hy
   have m5:=mulB (wb - wa) (by omega)
   rw [hz] at hdn
   have z7:=wadd_ok p (h.o ((wb - wa) * dn+(pb - pa)) (by omega))
   rw [← hdn] at z7
   exact zapa_tg W p a1 a2 a3 a4 n1 n2 n3 n4 c1 c2 c3 c4 m1 d1 m2 d2 s t _ _ wa wb pa pb dn _ _ _ _ _ hR h1 h2 h3 h4 (hide HS) (hide HB) (hide (wsub_ok p (by omega))) (hide (wcmp_ok p pb pa)) (zcI_ge hy) (hide (wmul_ok p (h.o _ (by omega)))) (hide (wsub_ok p hy)) (hide z7) (hide (wfr_ok p t _ _))
 ·rw [decide_eq_false hlow] at HB
  rw [if_neg (fun hh=>hlow (hlw.1 hh))] at hdn ⊢
  rcases Nat.lt_or_ge pa pb with hy|hy
  ·have hX:wb < wa:=by omega
   have hz:=lex_lo (D:=dn) (y1:=pa) hX hB
   have m5:=mulB (wa - wb - 1) (by omega)
   rw [hz] at hdn
   have z7:=wadd_ok p (h.o ((wa - wb - 1) * dn+(dn - pb+pa - 0)) (by omega))
   rw [← hdn] at z7
   exact zapa_fl W p a1 a2 a3 a4 n1 n2 n3 n4 c1 c2 c3 c4 m1 d1 m2 d2 s t _ _ wa wb pa pb dn _ _ _ _ _ _ _ _ hR h1 h2 h3 h4 (hide HS) (hide HB) (hide (wsub_ok p (by omega))) (hide (wcmp_ok p pa pb)) (zcI_lt hy) (hide (wsub_ok p (by omega))) (hide (wsub_ok p (by omega))) (hide (wadd_ok p (h.o _ (by omega)))) (hide (wmul_ok p (h.o _ (by omega)))) (hide (wsub_ok p (Nat.zero_le _))) (hide z7) (hide (wfr_ok p s _ _))
  ·have hX:wb≤wa:=by omega
   have hz:=lex_ge (D:=dn) hX hy
   have m5:=mulB (wa - wb) (by omega)
   rw [hz] at hdn
   have z7:=wadd_ok p (h.o ((wa - wb) * dn+(pa - pb)) (by omega))
   rw [← hdn] at z7
   exact zapa_fg W p a1 a2 a3 a4 n1 n2 n3 n4 c1 c2 c3 c4 m1 d1 m2 d2 s t _ _ wa wb pa pb dn _ _ _ _ _ hR h1 h2 h3 h4 (hide HS) (hide HB) (hide (wsub_ok p (by omega))) (hide (wcmp_ok p pa pb)) (zcI_ge hy) (hide (wmul_ok p (h.o _ (by omega)))) (hide (wsub_ok p hy)) (hide z7) (hide (wfr_ok p s _ _))
theorem sum_ok {N m1 d1 m2 d2:Nat} (h:SmR N m1 d1 m2 d2) {x y:Rat} {s t:Bool} (hx:Rm.V x s m1 d1) (hy:Rm.V y t m2 d2) :
  ∃ (g:Bool) (z dn:Nat),Rm.Q (x+y) g z dn∧BSum 47 s t m1 d1 m2 d2 z dn g:=by
 cases hst:(s == t)
 ·have ht:t = !s:=by cases s <;> cases t <;> first|rfl|exact absurd hst (by decide)
  subst ht
  refine ⟨_,_,_,Rm.sum_diff hx hy,fun W a1 n1 c1 a2 n2 c2 a3 n3 c3 a4 n4 c4 h1 h2 h3 h4=>zsum_d W a1 a2 a3 a4 n1 n2 n3 n4 c1 c2 c3 c4 m1 d1 m2 d2 s (!s) _ _ _ h1 h2 h3 h4 (fun p=>hide (apa_ok h hx.co hy.co p s (!s) hst)) hst⟩
 ·have ht:s = t:=by simpa using hst
  subst ht
  exact ⟨_,_,_,Rm.sum_same hx hy,fun W a1 n1 c1 a2 n2 c2 a3 n3 c3 a4 n4 c4 h1 h2 h3 h4=>zsum_s W a1 a2 a3 a4 n1 n2 n3 n4 c1 c2 c3 c4 m1 d1 m2 d2 s _ _ _ h1 h2 h3 h4 (fun p=>hide (tog_ok h p s))⟩
theorem ysign_t (w:World)   :
  Calls Tryz.prog 51 #[.bool true] w fun en w'=>en = .returned (.int .i64 1)∧Below w.heap.size w w':=by
 refine calls_sym Tryz.func51 rfl (by kernel_rfl) fun T hK=>?_
 replace hK:Kn T _ [(0,.bool true)]:=hK
 have hS:=Fb.begin w
 have hG:GsAt [] w:=trivial
 refine wq hS hG hK (fun p1=>[.v 2 (.int .i64 0)]) (fun p1=>[(0,.bool true),(2,.int .i64 0)]) (fun p1=>?_) (fun p1 W1 T hF hK=>?_)
 ·refine okv ?_
  exact ok_nil
 replace hS:=SymF.fc hS hF [] []
 replace hG:=hF.gx
 clear hF
 refine wp_seq ?_
 refine wq hS hG hK (fun p2=>[.v 3 (.bool true)]) (fun p2=>[(2,.int .i64 0),(3,.bool true)]) (fun p2=>?_) (fun p2 W2 T hF hK=>?_)
 ·refine okv ?_
  exact ok_nil
 obtain ⟨hS,hG⟩:=SymF.fg hS hF
 clear hF
 refine wp_cond_true (hK.ew 3) ?_
 refine wq hS hG hK (fun p3=>[.v 2 (.int .i64 1)]) (fun p3=>[(2,.int .i64 1),(3,.bool true)]) (fun p3=>?_) (fun p3 W3 T hF hK=>?_)
 ·refine okv ?_
  exact ok_nil
 obtain ⟨hS,hG⟩:=SymF.fg hS hF
 clear hF
 refine wp_ret ?_
 refine then_r ?_
 exact sym_end hS hK (.int .i64 1) [] [] (by kernel_rfl) (by kernel_rfl) ⟨rfl,hS.fr⟩
theorem ysign_f (w:World)   :
  Calls Tryz.prog 51 #[.bool false] w fun en w'=>en = .returned (.int .i64 (-1))∧Below w.heap.size w w':=by
 refine calls_sym Tryz.func51 rfl (by kernel_rfl) fun T hK=>?_
 replace hK:Kn T _ [(0,.bool false)]:=hK
 have hS:=Fb.begin w
 have hG:GsAt [] w:=trivial
 refine wq hS hG hK (fun p1=>[.v 2 (.int .i64 0)]) (fun p1=>[(0,.bool false),(2,.int .i64 0)]) (fun p1=>?_) (fun p1 W1 T hF hK=>?_)
 ·refine okv ?_
  exact ok_nil
 replace hS:=SymF.fc hS hF [] []
 replace hG:=hF.gx
 clear hF
 refine wp_seq ?_
 refine wq hS hG hK (fun p2=>[.v 3 (.bool false)]) (fun p2=>[(2,.int .i64 0),(3,.bool false)]) (fun p2=>?_) (fun p2 W2 T hF hK=>?_)
 ·refine okv ?_
  exact ok_nil
 obtain ⟨hS,hG⟩:=SymF.fg hS hF
 clear hF
 refine wp_cond_false (hK.ew 3) (wp_skip (then_n ?_))
 refine wq hS hG hK (fun p3=>[.v 2 (.int .i64 (-1))]) (fun p3=>[(2,.int .i64 (-1)),(3,.bool false)]) (fun p3=>?_) (fun p3 W3 T hF hK=>?_)
 ·refine okv ?_
  exact ok_nil
 obtain ⟨hS,hG⟩:=SymF.fg hS hF
 clear hF
 refine wp_ret ?_
 exact sym_end hS hK (.int .i64 (-1)) [] [] (by kernel_rfl) (by kernel_rfl) ⟨rfl,hS.fr⟩
theorem ywcmp {x y:Nat} {r:Int} (hr:r = cmpI x y) (p:Nat):WCmp p x y r:=by
 subst hr; exact wcmp_ok p x y
theorem farther_t (s t:Bool) (a1 a2 a3 a4:Option Addr) (n1 n2 n3 n4 c1 c2 c3 c4:Nat) (m1 m2 m3 m4:Nat) (ho:¬ Over (m1 * m4)) (ho2:¬ Over (m3 * m2)) (hc:decide ((0:Int) < cmpI (m1 * m4) (m3 * m2)) = true) (w:World) (h1:Num w a1 n1 m1) (h2:Num w a2 n2 m2) (h3:Num w a3 n3 m3) (h4:Num w a4 n4 m4) :
  Calls Tryz.prog 52 #[.agg #[.bool s,.slice a1 n1 c1,.slice a2 n2 c2,.bool t,.slice a3 n3 c3,.slice a4 n4 c4]] w fun en w'=>en = .returned (.bool true)∧Below w.heap.size w w':=by
 obtain ⟨r,hr⟩:∃ r,r = cmpI (m1 * m4) (m3 * m2):=⟨_,rfl⟩
 rw [← hr] at hc
 refine calls_sym Tryz.func52 rfl (by kernel_rfl) fun T hK=>?_
 replace hK:Kn T _ [(0,.agg #[.bool s,.slice a1 n1 c1,.slice a2 n2 c2,.bool t,.slice a3 n3 c3,.slice a4 n4 c4])]:=hK
 have hS:=Fb.begin w
 have hG:GsAt [gN a1 n1 m1,gN a2 n2 m2,gN a3 n3 m3,gN a4 n4 m4] w:=⟨h1,h2,h3,h4,trivial⟩
 refine wq hS hG hK (fun p1=>[.n 1 #[.bool s,.slice a1 n1 c1,.slice a2 n2 c2,.bool t,.slice a3 n3 c3,.slice a4 n4 c4] 86,.v 2 (.bool false)]) (fun p1=>[(1,pT (p1 0).N 0),(2,.bool false)]) (fun p1=>?_) (fun p1 W1 T hF hK=>?_)
 ·refine okn ?_
  refine okv ?_
  exact ok_nil
 replace hS:=SymF.fc hS hF [1000] [⟨(p1 0).N,#[.bool s,.slice a1 n1 c1,.slice a2 n2 c2,.bool t,.slice a3 n3 c3,.slice a4 n4 c4],86,true⟩]
 replace hG:=hF.gx
 clear hF
 refine wq hS hG hK (fun p2=>[.n 3 #[.int .i64 0] 110]) (fun p2=>[(1,pT (p1 0).N 0),(2,.bool false),(3,pT (p2 0).N 0)]) (fun p2=>?_) (fun p2 W2 T hF hK=>?_)
 ·refine okn ?_
  exact ok_nil
 replace hS:=SymF.fc hS hF [0,1000] [⟨(p1 0).N,#[.bool s,.slice a1 n1 c1,.slice a2 n2 c2,.bool t,.slice a3 n3 c3,.slice a4 n4 c4],86,true⟩,⟨(p2 0).N,#[.int .i64 0],110,true⟩]
 replace hG:=hF.gx
 clear hF
 refine wq hS hG hK (fun p3=>[.v 6 (pT (p1 0).N 0),.v 7 (pT (p1 0).N 1),.l 8 (.agg #[.slice a1 n1 c1]) 0 1,.v 9 (pT (p1 0).N 3),.v 10 (pT (p1 0).N 5),.l 11 (.agg #[.slice a4 n4 c4]) 0 5,.c (some 12) (cN W2.heap.size (m1 * m4)),.n 4 #[.slice none 0 0] 26,.p 1007 0 [.slice (p3 6).A (p3 6).N (p3 6).C]]) (fun p3=>[(1,pT (p1 0).N 0),(2,.bool false),(3,pT (p2 0).N 0),(4,pT (p3 7).N 0)]) (fun p3=>?_) (fun p3 W3 T hF hK=>?_)
 ·iterate 2 refine okv ?_
  refine okl ?_
  iterate 2 refine okv ?_
  refine okl ?_
  refine okc (fun W cx=>as_n cx.hb (wmul_ok (p2 0).N ho _ _ _ c1 _ _ c4 ⟨_,_,cx.B 1 _ rfl (by kernel_rfl) (by kernel_rfl),rfl⟩ (cx.G.1) (cx.G.2.2.2.1))) ?_
  refine okn ?_
  refine okp ?_
  exact ok_nil
 replace hS:=SymF.fc hS hF [0,1,1007] [⟨(p1 0).N,#[.bool s,.slice a1 n1 c1,.slice a2 n2 c2,.bool t,.slice a3 n3 c3,.slice a4 n4 c4],86,true⟩,⟨(p2 0).N,#[.int .i64 0],110,true⟩,⟨(p3 7).N,#[.slice (p3 6).A (p3 6).N (p3 6).C],26,true⟩]
 replace hG:GsAt (gM W2.heap.size (p3 6).A (p3 6).N (p3 6).C (m1 * m4) :: _) W3:=⟨hF.fx 6,hF.gx⟩
 clear hF
 refine wq hS hG hK (fun p4=>[.v 13 (pT (p1 0).N 3),.v 14 (pT (p1 0).N 4),.l 15 (.agg #[.slice a3 n3 c3]) 0 4,.v 16 (pT (p1 0).N 0),.v 17 (pT (p1 0).N 2),.l 18 (.agg #[.slice a2 n2 c2]) 0 2,.c (some 19) (cN W3.heap.size (m3 * m2)),.n 5 #[.slice none 0 0] 26,.p 1007 0 [.slice (p4 6).A (p4 6).N (p4 6).C]]) (fun p4=>[(1,pT (p1 0).N 0),(2,.bool false),(3,pT (p2 0).N 0),(4,pT (p3 7).N 0),(5,pT (p4 7).N 0)]) (fun p4=>?_) (fun p4 W4 T hF hK=>?_)
 ·iterate 2 refine okv ?_
  refine okl ?_
  iterate 2 refine okv ?_
  refine okl ?_
  refine okc (fun W cx=>as_n cx.hb (wmul_ok (p2 0).N ho2 _ _ _ c3 _ _ c2 ⟨_,_,cx.B 1 _ rfl (by kernel_rfl) (by kernel_rfl),rfl⟩ (cx.G.2.2.2.1) (cx.G.2.2.1))) ?_
  refine okn ?_
  refine okp ?_
  exact ok_nil
 replace hS:=SymF.fc hS hF [0,1,2,1007] [⟨(p1 0).N,#[.bool s,.slice a1 n1 c1,.slice a2 n2 c2,.bool t,.slice a3 n3 c3,.slice a4 n4 c4],86,true⟩,⟨(p2 0).N,#[.int .i64 0],110,true⟩,⟨(p3 7).N,#[.slice (p3 6).A (p3 6).N (p3 6).C],26,true⟩,⟨(p4 7).N,#[.slice (p4 6).A (p4 6).N (p4 6).C],26,true⟩]
 replace hG:GsAt (gM W3.heap.size (p4 6).A (p4 6).N (p4 6).C (m3 * m2) :: _) W4:=⟨hF.fx 6,hF.gx⟩
 clear hF
 refine wp_seq ?_
 refine wq hS hG hK (fun p5=>[.v 20 (pT (p2 0).N 0),.v 21 (pT (p2 0).N 0),.l 22 (.int .i64 0) 1 0,.v 23 (.bool true)]) (fun p5=>[(1,pT (p1 0).N 0),(2,.bool false),(3,pT (p2 0).N 0),(4,pT (p3 7).N 0),(5,pT (p4 7).N 0),(23,.bool true)]) (fun p5=>?_) (fun p5 W5 T hF hK=>?_)
 ·iterate 2 refine okv ?_
  refine okl ?_
  refine okv ?_
  exact ok_nil
 obtain ⟨hS,hG⟩:=SymF.fg hS hF
 clear hF
 refine wp_cond_true (hK.ew 23) ?_
 refine wq hS hG hK (fun p6=>[.l 24 (.agg #[.slice (p3 6).A (p3 6).N (p3 6).C]) 2 0,.l 25 (.agg #[.slice (p4 6).A (p4 6).N (p4 6).C]) 3 0,.c (some 26) (cV (.int .i64 r)),.v 27 (.bool true),.v 2 (.bool true)]) (fun p6=>[(1,pT (p1 0).N 0),(2,.bool true)]) (fun p6=>?_) (fun p6 W6 T hF hK=>?_)
 ·iterate 2 refine okl ?_
  refine okc (fun W cx=>as_v (ywcmp hr (p2 0).N _ _ _ (p3 6).C _ _ (p4 6).C ⟨_,_,cx.B 1 _ rfl (by kernel_rfl) (by kernel_rfl),rfl⟩ (Mine.num cx.G.2.1) (Mine.num cx.G.1))) ?_
  refine okvb ((show decide (r > 0) = true from hc)) ?_
  refine okv ?_
  exact ok_nil
 obtain ⟨hS,hG⟩:=SymF.fg hS hF
 clear hF
 refine wp_ret ?_
 refine then_r ?_
 exact sym_end hS hK (.bool true) [] [] (by kernel_rfl) (by kernel_rfl) ⟨rfl,hS.fr⟩
theorem farther_f (s t:Bool) (a1 a2 a3 a4:Option Addr) (n1 n2 n3 n4 c1 c2 c3 c4:Nat) (m1 m2 m3 m4:Nat) (ho:¬ Over (m1 * m4)) (ho2:¬ Over (m3 * m2)) (hc:decide ((0:Int) < cmpI (m1 * m4) (m3 * m2)) = false) (w:World) (h1:Num w a1 n1 m1) (h2:Num w a2 n2 m2) (h3:Num w a3 n3 m3) (h4:Num w a4 n4 m4) :
  Calls Tryz.prog 52 #[.agg #[.bool s,.slice a1 n1 c1,.slice a2 n2 c2,.bool t,.slice a3 n3 c3,.slice a4 n4 c4]] w fun en w'=>en = .returned (.bool false)∧Below w.heap.size w w':=by
 obtain ⟨r,hr⟩:∃ r,r = cmpI (m1 * m4) (m3 * m2):=⟨_,rfl⟩
 rw [← hr] at hc
 refine calls_sym Tryz.func52 rfl (by kernel_rfl) fun T hK=>?_
 replace hK:Kn T _ [(0,.agg #[.bool s,.slice a1 n1 c1,.slice a2 n2 c2,.bool t,.slice a3 n3 c3,.slice a4 n4 c4])]:=hK
 have hS:=Fb.begin w
 have hG:GsAt [gN a1 n1 m1,gN a2 n2 m2,gN a3 n3 m3,gN a4 n4 m4] w:=⟨h1,h2,h3,h4,trivial⟩
 refine wq hS hG hK (fun p1=>[.n 1 #[.bool s,.slice a1 n1 c1,.slice a2 n2 c2,.bool t,.slice a3 n3 c3,.slice a4 n4 c4] 86,.v 2 (.bool false)]) (fun p1=>[(1,pT (p1 0).N 0),(2,.bool false)]) (fun p1=>?_) (fun p1 W1 T hF hK=>?_)
 ·refine okn ?_
  refine okv ?_
  exact ok_nil
 replace hS:=SymF.fc hS hF [1000] [⟨(p1 0).N,#[.bool s,.slice a1 n1 c1,.slice a2 n2 c2,.bool t,.slice a3 n3 c3,.slice a4 n4 c4],86,true⟩]
 replace hG:=hF.gx
 clear hF
 refine wq hS hG hK (fun p2=>[.n 3 #[.int .i64 0] 110]) (fun p2=>[(1,pT (p1 0).N 0),(2,.bool false),(3,pT (p2 0).N 0)]) (fun p2=>?_) (fun p2 W2 T hF hK=>?_)
 ·refine okn ?_
  exact ok_nil
 replace hS:=SymF.fc hS hF [0,1000] [⟨(p1 0).N,#[.bool s,.slice a1 n1 c1,.slice a2 n2 c2,.bool t,.slice a3 n3 c3,.slice a4 n4 c4],86,true⟩,⟨(p2 0).N,#[.int .i64 0],110,true⟩]
 replace hG:=hF.gx
 clear hF
 refine wq hS hG hK (fun p3=>[.v 6 (pT (p1 0).N 0),.v 7 (pT (p1 0).N 1),.l 8 (.agg #[.slice a1 n1 c1]) 0 1,.v 9 (pT (p1 0).N 3),.v 10 (pT (p1 0).N 5),.l 11 (.agg #[.slice a4 n4 c4]) 0 5,.c (some 12) (cN W2.heap.size (m1 * m4)),.n 4 #[.slice none 0 0] 26,.p 1007 0 [.slice (p3 6).A (p3 6).N (p3 6).C]]) (fun p3=>[(1,pT (p1 0).N 0),(2,.bool false),(3,pT (p2 0).N 0),(4,pT (p3 7).N 0)]) (fun p3=>?_) (fun p3 W3 T hF hK=>?_)
 ·iterate 2 refine okv ?_
  refine okl ?_
  iterate 2 refine okv ?_
  refine okl ?_
  refine okc (fun W cx=>as_n cx.hb (wmul_ok (p2 0).N ho _ _ _ c1 _ _ c4 ⟨_,_,cx.B 1 _ rfl (by kernel_rfl) (by kernel_rfl),rfl⟩ (cx.G.1) (cx.G.2.2.2.1))) ?_
  refine okn ?_
  refine okp ?_
  exact ok_nil
 replace hS:=SymF.fc hS hF [0,1,1007] [⟨(p1 0).N,#[.bool s,.slice a1 n1 c1,.slice a2 n2 c2,.bool t,.slice a3 n3 c3,.slice a4 n4 c4],86,true⟩,⟨(p2 0).N,#[.int .i64 0],110,true⟩,⟨(p3 7).N,#[.slice (p3 6).A (p3 6).N (p3 6).C],26,true⟩]
 replace hG:GsAt (gM W2.heap.size (p3 6).A (p3 6).N (p3 6).C (m1 * m4) :: _) W3:=⟨hF.fx 6,hF.gx⟩
 clear hF
 refine wq hS hG hK (fun p4=>[.v 13 (pT (p1 0).N 3),.v 14 (pT (p1 0).N 4),.l 15 (.agg #[.slice a3 n3 c3]) 0 4,.v 16 (pT (p1 0).N 0),.v 17 (pT (p1 0).N 2),.l 18 (.agg #[.slice a2 n2 c2]) 0 2,.c (some 19) (cN W3.heap.size (m3 * m2)),.n 5 #[.slice none 0 0] 26,.p 1007 0 [.slice (p4 6).A (p4 6).N (p4 6).C]]) (fun p4=>[(1,pT (p1 0).N 0),(2,.bool false),(3,pT (p2 0).N 0),(4,pT (p3 7).N 0),(5,pT (p4 7).N 0)]) (fun p4=>?_) (fun p4 W4 T hF hK=>?_)
 ·iterate 2 refine okv ?_
  refine okl ?_
  iterate 2 refine okv ?_
  refine okl ?_
  refine okc (fun W cx=>as_n cx.hb (wmul_ok (p2 0).N ho2 _ _ _ c3 _ _ c2 ⟨_,_,cx.B 1 _ rfl (by kernel_rfl) (by kernel_rfl),rfl⟩ (cx.G.2.2.2.1) (cx.G.2.2.1))) ?_
  refine okn ?_
  refine okp ?_
  exact ok_nil
 replace hS:=SymF.fc hS hF [0,1,2,1007] [⟨(p1 0).N,#[.bool s,.slice a1 n1 c1,.slice a2 n2 c2,.bool t,.slice a3 n3 c3,.slice a4 n4 c4],86,true⟩,⟨(p2 0).N,#[.int .i64 0],110,true⟩,⟨(p3 7).N,#[.slice (p3 6).A (p3 6).N (p3 6).C],26,true⟩,⟨(p4 7).N,#[.slice (p4 6).A (p4 6).N (p4 6).C],26,true⟩]
 replace hG:GsAt (gM W3.heap.size (p4 6).A (p4 6).N (p4 6).C (m3 * m2) :: _) W4:=⟨hF.fx 6,hF.gx⟩
 clear hF
 refine wp_seq ?_
 refine wq hS hG hK (fun p5=>[.v 20 (pT (p2 0).N 0),.v 21 (pT (p2 0).N 0),.l 22 (.int .i64 0) 1 0,.v 23 (.bool true)]) (fun p5=>[(1,pT (p1 0).N 0),(2,.bool false),(3,pT (p2 0).N 0),(4,pT (p3 7).N 0),(5,pT (p4 7).N 0),(23,.bool true)]) (fun p5=>?_) (fun p5 W5 T hF hK=>?_)
 ·iterate 2 refine okv ?_
  refine okl ?_
  refine okv ?_
  exact ok_nil
 obtain ⟨hS,hG⟩:=SymF.fg hS hF
 clear hF
 refine wp_cond_true (hK.ew 23) ?_
 refine wq hS hG hK (fun p6=>[.l 24 (.agg #[.slice (p3 6).A (p3 6).N (p3 6).C]) 2 0,.l 25 (.agg #[.slice (p4 6).A (p4 6).N (p4 6).C]) 3 0,.c (some 26) (cV (.int .i64 r)),.v 27 (.bool false),.v 2 (.bool false)]) (fun p6=>[(1,pT (p1 0).N 0),(2,.bool false)]) (fun p6=>?_) (fun p6 W6 T hF hK=>?_)
 ·iterate 2 refine okl ?_
  refine okc (fun W cx=>as_v (ywcmp hr (p2 0).N _ _ _ (p3 6).C _ _ (p4 6).C ⟨_,_,cx.B 1 _ rfl (by kernel_rfl) (by kernel_rfl),rfl⟩ (Mine.num cx.G.2.1) (Mine.num cx.G.1))) ?_
  refine okvb ((show decide (r > 0) = false from hc)) ?_
  refine okv ?_
  exact ok_nil
 obtain ⟨hS,hG⟩:=SymF.fg hS hF
 clear hF
 refine wp_ret ?_
 refine then_r ?_
 exact sym_end hS hK (.bool false) [] [] (by kernel_rfl) (by kernel_rfl) ⟨rfl,hS.fr⟩
theorem ysign (b:Bool) (w:World):Calls Tryz.prog 51 #[.bool b] w fun en w'=>en = .returned (.int .i64 (if b then 1 else -1))∧Below w.heap.size w w':=by
 cases b
 ·exact ysign_f w
 ·exact ysign_t w
theorem rcmp_same (s t:Bool) (a1 a2 a3 a4:Option Addr) (n1 n2 n3 n4 c1 c2 c3 c4:Nat) (w:World) (HC:Hid (∀ W:World,Below w.heap.size w W→Calls Tryz.prog 49 #[.agg #[.bool s,.slice a1 n1 c1,.slice a2 n2 c2,.bool t,.slice a3 n3 c3,.slice a4 n4 c4]] W fun e w'=>e = .returned (.int .i64 0)∧Below W.heap.size W w')) (HS:Hid (∀ W:World,Below w.heap.size w W→Calls Tryz.prog 50 #[.agg #[.bool s,.slice a1 n1 c1,.slice a2 n2 c2,.bool t,.slice a3 n3 c3,.slice a4 n4 c4]] W fun e w'=>e = .returned (.bool true)∧Below W.heap.size W w')) :
  Calls Tryz.prog 15 #[.agg #[.bool s,.slice a1 n1 c1,.slice a2 n2 c2],.agg #[.bool t,.slice a3 n3 c3,.slice a4 n4 c4]] w fun en w'=>en = .returned (.tuple #[.int .i64 0,.int .i64 0])∧Below w.heap.size w w':=by
 refine calls_sym Tryz.func15 rfl (by kernel_rfl) fun T hK=>?_
 replace hK:Kn T _ [(0,.agg #[.bool s,.slice a1 n1 c1,.slice a2 n2 c2]),(1,.agg #[.bool t,.slice a3 n3 c3,.slice a4 n4 c4])]:=hK
 have hS:=Fb.begin w
 have hG:GsAt [] w:=trivial
 refine wq hS hG hK (fun p1=>[.n 2 #[.bool s,.slice a1 n1 c1,.slice a2 n2 c2] 28,.n 3 #[.bool t,.slice a3 n3 c3,.slice a4 n4 c4] 28,.v 4 (.int .i64 0),.v 5 (.int .i64 0)]) (fun p1=>[(2,pT (p1 0).N 0),(3,pT (p1 1).N 0),(4,.int .i64 0),(5,.int .i64 0)]) (fun p1=>?_) (fun p1 W1 T hF hK=>?_)
 ·iterate 2 refine okn ?_
  iterate 2 refine okv ?_
  exact ok_nil
 replace hS:=SymF.fc hS hF [1000,1001] [⟨(p1 0).N,#[.bool s,.slice a1 n1 c1,.slice a2 n2 c2],28,true⟩,⟨(p1 1).N,#[.bool t,.slice a3 n3 c3,.slice a4 n4 c4],28,true⟩]
 replace hG:=hF.gx
 clear hF
 refine wq hS hG hK (fun p2=>[.l 8 (.agg #[.bool s,.slice a1 n1 c1,.slice a2 n2 c2]) 0 0,.l 9 (.agg #[.bool t,.slice a3 n3 c3,.slice a4 n4 c4]) 1 0,.v 10 (.agg #[.bool s,.slice a1 n1 c1,.slice a2 n2 c2,.bool t,.slice a3 n3 c3,.slice a4 n4 c4]),.n 6 #[.bool false,.slice none 0 0,.slice none 0 0,.bool false,.slice none 0 0,.slice none 0 0] 86,.p 1003 0 [.bool s,.slice a1 n1 c1,.slice a2 n2 c2,.bool t,.slice a3 n3 c3,.slice a4 n4 c4]]) (fun p2=>[(2,pT (p1 0).N 0),(3,pT (p1 1).N 0),(4,.int .i64 0),(5,.int .i64 0),(6,pT (p2 3).N 0)]) (fun p2=>?_) (fun p2 W2 T hF hK=>?_)
 ·iterate 2 refine okl ?_
  refine okv ?_
  refine okn ?_
  refine okp ?_
  exact ok_nil
 replace hS:=SymF.fc hS hF [0,1,1003] [⟨(p1 0).N,#[.bool s,.slice a1 n1 c1,.slice a2 n2 c2],28,true⟩,⟨(p1 1).N,#[.bool t,.slice a3 n3 c3,.slice a4 n4 c4],28,true⟩,⟨(p2 3).N,#[.bool s,.slice a1 n1 c1,.slice a2 n2 c2,.bool t,.slice a3 n3 c3,.slice a4 n4 c4],86,true⟩]
 replace hG:=hF.gx
 clear hF
 refine wp_seq ?_
 refine wq hS hG hK (fun p3=>[.l 11 (.agg #[.bool s,.slice a1 n1 c1,.slice a2 n2 c2,.bool t,.slice a3 n3 c3,.slice a4 n4 c4]) 2 0,.c (some 12) (cV (.int .i64 0)),.v 7 (.int .i64 0)]) (fun p3=>[(2,pT (p1 0).N 0),(3,pT (p1 1).N 0),(4,.int .i64 0),(5,.int .i64 0),(6,pT (p2 3).N 0),(7,.int .i64 0)]) (fun p3=>?_) (fun p3 W3 T hF hK=>?_)
 ·refine okl ?_
  refine okc (fun W cx=>as_v (unhide HC _ cx.fr)) ?_
  refine okv ?_
  exact ok_nil
 obtain ⟨hS,hG⟩:=SymF.fg hS hF
 clear hF
 refine wq hS hG hK (fun p4=>[.v 13 (.int .i64 0),.v 14 (.bool false)]) (fun p4=>[(2,pT (p1 0).N 0),(3,pT (p1 1).N 0),(4,.int .i64 0),(5,.int .i64 0),(6,pT (p2 3).N 0),(7,.int .i64 0),(14,.bool false)]) (fun p4=>?_) (fun p4 W4 T hF hK=>?_)
 ·iterate 2 refine okv ?_
  exact ok_nil
 obtain ⟨hS,hG⟩:=SymF.fg hS hF
 clear hF
 refine wp_cond_false (hK.ew 14) (wp_skip ?_)
 refine then_n (wp_seq ?_)
 refine wq hS hG hK (fun p5=>[.l 16 (.agg #[.bool s,.slice a1 n1 c1,.slice a2 n2 c2,.bool t,.slice a3 n3 c3,.slice a4 n4 c4]) 2 0,.c (some 17) (cV (.bool true))]) (fun p5=>[(2,pT (p1 0).N 0),(3,pT (p1 1).N 0),(4,.int .i64 0),(5,.int .i64 0),(6,pT (p2 3).N 0),(7,.int .i64 0),(17,.bool true)]) (fun p5=>?_) (fun p5 W5 T hF hK=>?_)
 ·refine okl ?_
  refine okc (fun W cx=>as_v (unhide HS _ cx.fr)) ?_
  exact ok_nil
 obtain ⟨hS,hG⟩:=SymF.fg hS hF
 clear hF
 refine wp_cond_true (hK.ew 17) ?_
 refine wq hS hG hK (fun p6=>[.v 4 (.int .i64 0),.v 5 (.int .i64 0)]) (fun p6=>[(2,pT (p1 0).N 0),(3,pT (p1 1).N 0),(4,.int .i64 0),(5,.int .i64 0),(6,pT (p2 3).N 0),(7,.int .i64 0)]) (fun p6=>?_) (fun p6 W6 T hF hK=>?_)
 ·iterate 2 refine okv ?_
  exact ok_nil
 obtain ⟨hS,hG⟩:=SymF.fg hS hF
 clear hF
 refine wp_ret ?_
 refine then_r ?_
 exact sym_end hS hK (.tuple #[.int .i64 0,.int .i64 0]) [] [] (by kernel_rfl) (by kernel_rfl) ⟨rfl,hS.fr⟩
theorem ycmp_ne (s t:Bool) (a1 a2 a3 a4:Option Addr) (n1 n2 n3 n4 c1 c2 c3 c4:Nat) (w:World) (HC:Hid (∀ W:World,Below w.heap.size w W→Calls Tryz.prog 49 #[.agg #[.bool s,.slice a1 n1 c1,.slice a2 n2 c2,.bool t,.slice a3 n3 c3,.slice a4 n4 c4]] W fun e w'=>e = .returned (.int .i64 0)∧Below W.heap.size W w')) (HS:Hid (∀ W:World,Below w.heap.size w W→Calls Tryz.prog 50 #[.agg #[.bool s,.slice a1 n1 c1,.slice a2 n2 c2,.bool t,.slice a3 n3 c3,.slice a4 n4 c4]] W fun e w'=>e = .returned (.bool false)∧Below W.heap.size W w')) (hst:(s != t) = true) :
  Calls Tryz.prog 15 #[.agg #[.bool s,.slice a1 n1 c1,.slice a2 n2 c2],.agg #[.bool t,.slice a3 n3 c3,.slice a4 n4 c4]] w fun en w'=>en = .returned (.tuple #[.int .i64 (if t then 1 else -1),.int .i64 0])∧Below w.heap.size w w':=by
 refine calls_sym Tryz.func15 rfl (by kernel_rfl) fun T hK=>?_
 replace hK:Kn T _ [(0,.agg #[.bool s,.slice a1 n1 c1,.slice a2 n2 c2]),(1,.agg #[.bool t,.slice a3 n3 c3,.slice a4 n4 c4])]:=hK
 have hS:=Fb.begin w
 have hG:GsAt [] w:=trivial
 refine wq hS hG hK (fun p1=>[.n 2 #[.bool s,.slice a1 n1 c1,.slice a2 n2 c2] 28,.n 3 #[.bool t,.slice a3 n3 c3,.slice a4 n4 c4] 28,.v 4 (.int .i64 0),.v 5 (.int .i64 0)]) (fun p1=>[(2,pT (p1 0).N 0),(3,pT (p1 1).N 0),(4,.int .i64 0),(5,.int .i64 0)]) (fun p1=>?_) (fun p1 W1 T hF hK=>?_)
 ·iterate 2 refine okn ?_
  iterate 2 refine okv ?_
  exact ok_nil
 replace hS:=SymF.fc hS hF [1000,1001] [⟨(p1 0).N,#[.bool s,.slice a1 n1 c1,.slice a2 n2 c2],28,true⟩,⟨(p1 1).N,#[.bool t,.slice a3 n3 c3,.slice a4 n4 c4],28,true⟩]
 replace hG:=hF.gx
 clear hF
 refine wq hS hG hK (fun p2=>[.l 8 (.agg #[.bool s,.slice a1 n1 c1,.slice a2 n2 c2]) 0 0,.l 9 (.agg #[.bool t,.slice a3 n3 c3,.slice a4 n4 c4]) 1 0,.v 10 (.agg #[.bool s,.slice a1 n1 c1,.slice a2 n2 c2,.bool t,.slice a3 n3 c3,.slice a4 n4 c4]),.n 6 #[.bool false,.slice none 0 0,.slice none 0 0,.bool false,.slice none 0 0,.slice none 0 0] 86,.p 1003 0 [.bool s,.slice a1 n1 c1,.slice a2 n2 c2,.bool t,.slice a3 n3 c3,.slice a4 n4 c4]]) (fun p2=>[(2,pT (p1 0).N 0),(3,pT (p1 1).N 0),(4,.int .i64 0),(5,.int .i64 0),(6,pT (p2 3).N 0)]) (fun p2=>?_) (fun p2 W2 T hF hK=>?_)
 ·iterate 2 refine okl ?_
  refine okv ?_
  refine okn ?_
  refine okp ?_
  exact ok_nil
 replace hS:=SymF.fc hS hF [0,1,1003] [⟨(p1 0).N,#[.bool s,.slice a1 n1 c1,.slice a2 n2 c2],28,true⟩,⟨(p1 1).N,#[.bool t,.slice a3 n3 c3,.slice a4 n4 c4],28,true⟩,⟨(p2 3).N,#[.bool s,.slice a1 n1 c1,.slice a2 n2 c2,.bool t,.slice a3 n3 c3,.slice a4 n4 c4],86,true⟩]
 replace hG:=hF.gx
 clear hF
 refine wp_seq ?_
 refine wq hS hG hK (fun p3=>[.l 11 (.agg #[.bool s,.slice a1 n1 c1,.slice a2 n2 c2,.bool t,.slice a3 n3 c3,.slice a4 n4 c4]) 2 0,.c (some 12) (cV (.int .i64 0)),.v 7 (.int .i64 0)]) (fun p3=>[(2,pT (p1 0).N 0),(3,pT (p1 1).N 0),(4,.int .i64 0),(5,.int .i64 0),(6,pT (p2 3).N 0),(7,.int .i64 0)]) (fun p3=>?_) (fun p3 W3 T hF hK=>?_)
 ·refine okl ?_
  refine okc (fun W cx=>as_v (unhide HC _ cx.fr)) ?_
  refine okv ?_
  exact ok_nil
 obtain ⟨hS,hG⟩:=SymF.fg hS hF
 clear hF
 refine wq hS hG hK (fun p4=>[.v 13 (.int .i64 0),.v 14 (.bool false)]) (fun p4=>[(2,pT (p1 0).N 0),(3,pT (p1 1).N 0),(4,.int .i64 0),(5,.int .i64 0),(6,pT (p2 3).N 0),(7,.int .i64 0),(14,.bool false)]) (fun p4=>?_) (fun p4 W4 T hF hK=>?_)
 ·iterate 2 refine okv ?_
  exact ok_nil
 obtain ⟨hS,hG⟩:=SymF.fg hS hF
 clear hF
 refine wp_cond_false (hK.ew 14) (wp_skip ?_)
 refine then_n (wp_seq ?_)
 refine wq hS hG hK (fun p5=>[.l 16 (.agg #[.bool s,.slice a1 n1 c1,.slice a2 n2 c2,.bool t,.slice a3 n3 c3,.slice a4 n4 c4]) 2 0,.c (some 17) (cV (.bool false))]) (fun p5=>[(2,pT (p1 0).N 0),(3,pT (p1 1).N 0),(4,.int .i64 0),(5,.int .i64 0),(6,pT (p2 3).N 0),(7,.int .i64 0),(17,.bool false)]) (fun p5=>?_) (fun p5 W5 T hF hK=>?_)
 ·refine okl ?_
  refine okc (fun W cx=>as_v (unhide HS _ cx.fr)) ?_
  exact ok_nil
 obtain ⟨hS,hG⟩:=SymF.fg hS hF
 clear hF
 refine wp_cond_false (hK.ew 17) (wp_skip ?_)
 refine then_n (wp_seq ?_)
 refine wq hS hG hK (fun p6=>[.v 18 (pT (p1 0).N 0),.l 19 (.bool s) 0 0,.v 20 (pT (p1 1).N 0),.l 21 (.bool t) 1 0,.v 22 (.bool true)]) (fun p6=>[(2,pT (p1 0).N 0),(3,pT (p1 1).N 0),(4,.int .i64 0),(5,.int .i64 0),(6,pT (p2 3).N 0),(7,.int .i64 0),(22,.bool true)]) (fun p6=>?_) (fun p6 W6 T hF hK=>?_)
 ·refine okv ?_
  refine okl ?_
  refine okv ?_
  refine okl ?_
  refine okvb (hst) ?_
  exact ok_nil
 obtain ⟨hS,hG⟩:=SymF.fg hS hF
 clear hF
 refine wp_cond_true (hK.ew 22) ?_
 refine wq hS hG hK (fun p7=>[.v 23 (pT (p1 1).N 0),.l 24 (.bool t) 1 0,.c (some 25) (cV (.int .i64 (if t then 1 else -1))),.v 4 (.int .i64 (if t then 1 else -1)),.v 5 (.int .i64 0)]) (fun p7=>[(2,pT (p1 0).N 0),(4,.int .i64 (if t then 1 else -1)),(5,.int .i64 0),(6,pT (p2 3).N 0),(7,.int .i64 0)]) (fun p7=>?_) (fun p7 W7 T hF hK=>?_)
 ·refine okv ?_
  refine okl ?_
  refine okc (fun W cx=>as_v (ysign t _)) ?_
  iterate 2 refine okv ?_
  exact ok_nil
 obtain ⟨hS,hG⟩:=SymF.fg hS hF
 clear hF
 refine wp_ret ?_
 refine then_r ?_
 exact sym_end hS hK (.tuple #[.int .i64 (if t then 1 else -1),.int .i64 0]) [] [] (by kernel_rfl) (by kernel_rfl) ⟨rfl,hS.fr⟩
theorem ycmp_far (s f:Bool) (a1 a2 a3 a4:Option Addr) (n1 n2 n3 n4 c1 c2 c3 c4:Nat) (w:World) (HC:Hid (∀ W:World,Below w.heap.size w W→Calls Tryz.prog 49 #[.agg #[.bool s,.slice a1 n1 c1,.slice a2 n2 c2,.bool s,.slice a3 n3 c3,.slice a4 n4 c4]] W fun e w'=>e = .returned (.int .i64 0)∧Below W.heap.size W w')) (HS:Hid (∀ W:World,Below w.heap.size w W→Calls Tryz.prog 50 #[.agg #[.bool s,.slice a1 n1 c1,.slice a2 n2 c2,.bool s,.slice a3 n3 c3,.slice a4 n4 c4]] W fun e w'=>e = .returned (.bool false)∧Below W.heap.size W w')) (HF:Hid (∀ W:World,Below w.heap.size w W→Calls Tryz.prog 52 #[.agg #[.bool s,.slice a1 n1 c1,.slice a2 n2 c2,.bool s,.slice a3 n3 c3,.slice a4 n4 c4]] W fun e w'=>e = .returned (.bool f)∧Below W.heap.size W w')) :
  Calls Tryz.prog 15 #[.agg #[.bool s,.slice a1 n1 c1,.slice a2 n2 c2],.agg #[.bool s,.slice a3 n3 c3,.slice a4 n4 c4]] w fun en w'=>en = .returned (.tuple #[.int .i64 (if (f != s) then 1 else -1),.int .i64 0])∧Below w.heap.size w w':=by
 refine calls_sym Tryz.func15 rfl (by kernel_rfl) fun T hK=>?_
 replace hK:Kn T _ [(0,.agg #[.bool s,.slice a1 n1 c1,.slice a2 n2 c2]),(1,.agg #[.bool s,.slice a3 n3 c3,.slice a4 n4 c4])]:=hK
 have hS:=Fb.begin w
 have hG:GsAt [] w:=trivial
 refine wq hS hG hK (fun p1=>[.n 2 #[.bool s,.slice a1 n1 c1,.slice a2 n2 c2] 28,.n 3 #[.bool s,.slice a3 n3 c3,.slice a4 n4 c4] 28,.v 4 (.int .i64 0),.v 5 (.int .i64 0)]) (fun p1=>[(2,pT (p1 0).N 0),(3,pT (p1 1).N 0),(4,.int .i64 0),(5,.int .i64 0)]) (fun p1=>?_) (fun p1 W1 T hF hK=>?_)
 ·iterate 2 refine okn ?_
  iterate 2 refine okv ?_
  exact ok_nil
 replace hS:=SymF.fc hS hF [1000,1001] [⟨(p1 0).N,#[.bool s,.slice a1 n1 c1,.slice a2 n2 c2],28,true⟩,⟨(p1 1).N,#[.bool s,.slice a3 n3 c3,.slice a4 n4 c4],28,true⟩]
 replace hG:=hF.gx
 clear hF
 refine wq hS hG hK (fun p2=>[.l 8 (.agg #[.bool s,.slice a1 n1 c1,.slice a2 n2 c2]) 0 0,.l 9 (.agg #[.bool s,.slice a3 n3 c3,.slice a4 n4 c4]) 1 0,.v 10 (.agg #[.bool s,.slice a1 n1 c1,.slice a2 n2 c2,.bool s,.slice a3 n3 c3,.slice a4 n4 c4]),.n 6 #[.bool false,.slice none 0 0,.slice none 0 0,.bool false,.slice none 0 0,.slice none 0 0] 86,.p 1003 0 [.bool s,.slice a1 n1 c1,.slice a2 n2 c2,.bool s,.slice a3 n3 c3,.slice a4 n4 c4]]) (fun p2=>[(2,pT (p1 0).N 0),(3,pT (p1 1).N 0),(4,.int .i64 0),(5,.int .i64 0),(6,pT (p2 3).N 0)]) (fun p2=>?_) (fun p2 W2 T hF hK=>?_)
 ·iterate 2 refine okl ?_
  refine okv ?_
  refine okn ?_
  refine okp ?_
  exact ok_nil
 replace hS:=SymF.fc hS hF [0,1,1003] [⟨(p1 0).N,#[.bool s,.slice a1 n1 c1,.slice a2 n2 c2],28,true⟩,⟨(p1 1).N,#[.bool s,.slice a3 n3 c3,.slice a4 n4 c4],28,true⟩,⟨(p2 3).N,#[.bool s,.slice a1 n1 c1,.slice a2 n2 c2,.bool s,.slice a3 n3 c3,.slice a4 n4 c4],86,true⟩]
 replace hG:=hF.gx
 clear hF
 refine wp_seq ?_
 refine wq hS hG hK (fun p3=>[.l 11 (.agg #[.bool s,.slice a1 n1 c1,.slice a2 n2 c2,.bool s,.slice a3 n3 c3,.slice a4 n4 c4]) 2 0,.c (some 12) (cV (.int .i64 0)),.v 7 (.int .i64 0)]) (fun p3=>[(2,pT (p1 0).N 0),(3,pT (p1 1).N 0),(4,.int .i64 0),(5,.int .i64 0),(6,pT (p2 3).N 0),(7,.int .i64 0)]) (fun p3=>?_) (fun p3 W3 T hF hK=>?_)
 ·refine okl ?_
  refine okc (fun W cx=>as_v (unhide HC _ cx.fr)) ?_
  refine okv ?_
  exact ok_nil
 obtain ⟨hS,hG⟩:=SymF.fg hS hF
 clear hF
 refine wq hS hG hK (fun p4=>[.v 13 (.int .i64 0),.v 14 (.bool false)]) (fun p4=>[(2,pT (p1 0).N 0),(3,pT (p1 1).N 0),(4,.int .i64 0),(5,.int .i64 0),(6,pT (p2 3).N 0),(7,.int .i64 0),(14,.bool false)]) (fun p4=>?_) (fun p4 W4 T hF hK=>?_)
 ·iterate 2 refine okv ?_
  exact ok_nil
 obtain ⟨hS,hG⟩:=SymF.fg hS hF
 clear hF
 refine wp_cond_false (hK.ew 14) (wp_skip ?_)
 refine then_n (wp_seq ?_)
 refine wq hS hG hK (fun p5=>[.l 16 (.agg #[.bool s,.slice a1 n1 c1,.slice a2 n2 c2,.bool s,.slice a3 n3 c3,.slice a4 n4 c4]) 2 0,.c (some 17) (cV (.bool false))]) (fun p5=>[(2,pT (p1 0).N 0),(3,pT (p1 1).N 0),(4,.int .i64 0),(5,.int .i64 0),(6,pT (p2 3).N 0),(7,.int .i64 0),(17,.bool false)]) (fun p5=>?_) (fun p5 W5 T hF hK=>?_)
 ·refine okl ?_
  refine okc (fun W cx=>as_v (unhide HS _ cx.fr)) ?_
  exact ok_nil
 obtain ⟨hS,hG⟩:=SymF.fg hS hF
 clear hF
 refine wp_cond_false (hK.ew 17) (wp_skip ?_)
 refine then_n (wp_seq ?_)
 refine wq hS hG hK (fun p6=>[.v 18 (pT (p1 0).N 0),.l 19 (.bool s) 0 0,.v 20 (pT (p1 1).N 0),.l 21 (.bool s) 1 0,.v 22 (.bool false)]) (fun p6=>[(2,pT (p1 0).N 0),(3,pT (p1 1).N 0),(4,.int .i64 0),(5,.int .i64 0),(6,pT (p2 3).N 0),(7,.int .i64 0),(22,.bool false)]) (fun p6=>?_) (fun p6 W6 T hF hK=>?_)
 ·refine okv ?_
  refine okl ?_
  refine okv ?_
  refine okl ?_
  refine okvb (bne_self_eq_false s) ?_
  exact ok_nil
 obtain ⟨hS,hG⟩:=SymF.fg hS hF
 clear hF
 refine wp_cond_false (hK.ew 22) (wp_skip (then_n ?_))
 refine wq hS hG hK (fun p7=>[.l 26 (.agg #[.bool s,.slice a1 n1 c1,.slice a2 n2 c2,.bool s,.slice a3 n3 c3,.slice a4 n4 c4]) 2 0,.c (some 27) (cV (.bool f)),.v 28 (pT (p1 0).N 0),.l 29 (.bool s) 0 0,.v 30 (.bool (f != s)),.c (some 31) (cV (.int .i64 (if (f != s) then 1 else -1))),.v 4 (.int .i64 (if (f != s) then 1 else -1)),.v 5 (.int .i64 0)]) (fun p7=>[(3,pT (p1 1).N 0),(4,.int .i64 (if (f != s) then 1 else -1)),(5,.int .i64 0),(7,.int .i64 0)]) (fun p7=>?_) (fun p7 W7 T hF hK=>?_)
 ·refine okl ?_
  refine okc (fun W cx=>as_v (unhide HF _ cx.fr)) ?_
  refine okv ?_
  refine okl ?_
  refine okv ?_
  refine okc (fun W cx=>as_v (ysign (f != s) _)) ?_
  iterate 2 refine okv ?_
  exact ok_nil
 obtain ⟨hS,hG⟩:=SymF.fg hS hF
 clear hF
 refine wp_ret ?_
 exact sym_end hS hK (.tuple #[.int .i64 (if (f != s) then 1 else -1),.int .i64 0]) [] [] (by kernel_rfl) (by kernel_rfl) ⟨rfl,hS.fr⟩
theorem rcmp_ft (a1 a2 a3 a4:Option Addr) (n1 n2 n3 n4 c1 c2 c3 c4:Nat) (w:World) (HC:Hid (∀ W:World,Below w.heap.size w W→Calls Tryz.prog 49 #[.agg #[.bool false,.slice a1 n1 c1,.slice a2 n2 c2,.bool true,.slice a3 n3 c3,.slice a4 n4 c4]] W fun e w'=>e = .returned (.int .i64 0)∧Below W.heap.size W w')) (HS:Hid (∀ W:World,Below w.heap.size w W→Calls Tryz.prog 50 #[.agg #[.bool false,.slice a1 n1 c1,.slice a2 n2 c2,.bool true,.slice a3 n3 c3,.slice a4 n4 c4]] W fun e w'=>e = .returned (.bool false)∧Below W.heap.size W w')):Calls Tryz.prog 15 #[.agg #[.bool false,.slice a1 n1 c1,.slice a2 n2 c2],.agg #[.bool true,.slice a3 n3 c3,.slice a4 n4 c4]] w fun en w'=>en = .returned (.tuple #[.int .i64 1,.int .i64 0])∧Below w.heap.size w w':=ycmp_ne false true a1 a2 a3 a4 n1 n2 n3 n4 c1 c2 c3 c4 w HC HS rfl
theorem rcmp_tf (a1 a2 a3 a4:Option Addr) (n1 n2 n3 n4 c1 c2 c3 c4:Nat) (w:World) (HC:Hid (∀ W:World,Below w.heap.size w W→Calls Tryz.prog 49 #[.agg #[.bool true,.slice a1 n1 c1,.slice a2 n2 c2,.bool false,.slice a3 n3 c3,.slice a4 n4 c4]] W fun e w'=>e = .returned (.int .i64 0)∧Below W.heap.size W w')) (HS:Hid (∀ W:World,Below w.heap.size w W→Calls Tryz.prog 50 #[.agg #[.bool true,.slice a1 n1 c1,.slice a2 n2 c2,.bool false,.slice a3 n3 c3,.slice a4 n4 c4]] W fun e w'=>e = .returned (.bool false)∧Below W.heap.size W w')):Calls Tryz.prog 15 #[.agg #[.bool true,.slice a1 n1 c1,.slice a2 n2 c2],.agg #[.bool false,.slice a3 n3 c3,.slice a4 n4 c4]] w fun en w'=>en = .returned (.tuple #[.int .i64 (-1),.int .i64 0])∧Below w.heap.size w w':=ycmp_ne true false a1 a2 a3 a4 n1 n2 n3 n4 c1 c2 c3 c4 w HC HS rfl
theorem rcmp_fft (a1 a2 a3 a4:Option Addr) (n1 n2 n3 n4 c1 c2 c3 c4:Nat) (w:World) (HC:Hid (∀ W:World,Below w.heap.size w W→Calls Tryz.prog 49 #[.agg #[.bool false,.slice a1 n1 c1,.slice a2 n2 c2,.bool false,.slice a3 n3 c3,.slice a4 n4 c4]] W fun e w'=>e = .returned (.int .i64 0)∧Below W.heap.size W w')) (HS:Hid (∀ W:World,Below w.heap.size w W→Calls Tryz.prog 50 #[.agg #[.bool false,.slice a1 n1 c1,.slice a2 n2 c2,.bool false,.slice a3 n3 c3,.slice a4 n4 c4]] W fun e w'=>e = .returned (.bool false)∧Below W.heap.size W w')) (HF:Hid (∀ W:World,Below w.heap.size w W→Calls Tryz.prog 52 #[.agg #[.bool false,.slice a1 n1 c1,.slice a2 n2 c2,.bool false,.slice a3 n3 c3,.slice a4 n4 c4]] W fun e w'=>e = .returned (.bool true)∧Below W.heap.size W w')):Calls Tryz.prog 15 #[.agg #[.bool false,.slice a1 n1 c1,.slice a2 n2 c2],.agg #[.bool false,.slice a3 n3 c3,.slice a4 n4 c4]] w fun en w'=>en = .returned (.tuple #[.int .i64 1,.int .i64 0])∧Below w.heap.size w w':=ycmp_far false true a1 a2 a3 a4 n1 n2 n3 n4 c1 c2 c3 c4 w HC HS HF
theorem rcmp_fff (a1 a2 a3 a4:Option Addr) (n1 n2 n3 n4 c1 c2 c3 c4:Nat) (w:World) (HC:Hid (∀ W:World,Below w.heap.size w W→Calls Tryz.prog 49 #[.agg #[.bool false,.slice a1 n1 c1,.slice a2 n2 c2,.bool false,.slice a3 n3 c3,.slice a4 n4 c4]] W fun e w'=>e = .returned (.int .i64 0)∧Below W.heap.size W w')) (HS:Hid (∀ W:World,Below w.heap.size w W→Calls Tryz.prog 50 #[.agg #[.bool false,.slice a1 n1 c1,.slice a2 n2 c2,.bool false,.slice a3 n3 c3,.slice a4 n4 c4]] W fun e w'=>e = .returned (.bool false)∧Below W.heap.size W w')) (HF:Hid (∀ W:World,Below w.heap.size w W→Calls Tryz.prog 52 #[.agg #[.bool false,.slice a1 n1 c1,.slice a2 n2 c2,.bool false,.slice a3 n3 c3,.slice a4 n4 c4]] W fun e w'=>e = .returned (.bool false)∧Below W.heap.size W w')):Calls Tryz.prog 15 #[.agg #[.bool false,.slice a1 n1 c1,.slice a2 n2 c2],.agg #[.bool false,.slice a3 n3 c3,.slice a4 n4 c4]] w fun en w'=>en = .returned (.tuple #[.int .i64 (-1),.int .i64 0])∧Below w.heap.size w w':=ycmp_far false false a1 a2 a3 a4 n1 n2 n3 n4 c1 c2 c3 c4 w HC HS HF
theorem rcmp_ttt (a1 a2 a3 a4:Option Addr) (n1 n2 n3 n4 c1 c2 c3 c4:Nat) (w:World) (HC:Hid (∀ W:World,Below w.heap.size w W→Calls Tryz.prog 49 #[.agg #[.bool true,.slice a1 n1 c1,.slice a2 n2 c2,.bool true,.slice a3 n3 c3,.slice a4 n4 c4]] W fun e w'=>e = .returned (.int .i64 0)∧Below W.heap.size W w')) (HS:Hid (∀ W:World,Below w.heap.size w W→Calls Tryz.prog 50 #[.agg #[.bool true,.slice a1 n1 c1,.slice a2 n2 c2,.bool true,.slice a3 n3 c3,.slice a4 n4 c4]] W fun e w'=>e = .returned (.bool false)∧Below W.heap.size W w')) (HF:Hid (∀ W:World,Below w.heap.size w W→Calls Tryz.prog 52 #[.agg #[.bool true,.slice a1 n1 c1,.slice a2 n2 c2,.bool true,.slice a3 n3 c3,.slice a4 n4 c4]] W fun e w'=>e = .returned (.bool true)∧Below W.heap.size W w')):Calls Tryz.prog 15 #[.agg #[.bool true,.slice a1 n1 c1,.slice a2 n2 c2],.agg #[.bool true,.slice a3 n3 c3,.slice a4 n4 c4]] w fun en w'=>en = .returned (.tuple #[.int .i64 (-1),.int .i64 0])∧Below w.heap.size w w':=ycmp_far true true a1 a2 a3 a4 n1 n2 n3 n4 c1 c2 c3 c4 w HC HS HF
theorem rcmp_ttf (a1 a2 a3 a4:Option Addr) (n1 n2 n3 n4 c1 c2 c3 c4:Nat) (w:World) (HC:Hid (∀ W:World,Below w.heap.size w W→Calls Tryz.prog 49 #[.agg #[.bool true,.slice a1 n1 c1,.slice a2 n2 c2,.bool true,.slice a3 n3 c3,.slice a4 n4 c4]] W fun e w'=>e = .returned (.int .i64 0)∧Below W.heap.size W w')) (HS:Hid (∀ W:World,Below w.heap.size w W→Calls Tryz.prog 50 #[.agg #[.bool true,.slice a1 n1 c1,.slice a2 n2 c2,.bool true,.slice a3 n3 c3,.slice a4 n4 c4]] W fun e w'=>e = .returned (.bool false)∧Below W.heap.size W w')) (HF:Hid (∀ W:World,Below w.heap.size w W→Calls Tryz.prog 52 #[.agg #[.bool true,.slice a1 n1 c1,.slice a2 n2 c2,.bool true,.slice a3 n3 c3,.slice a4 n4 c4]] W fun e w'=>e = .returned (.bool false)∧Below W.heap.size W w')):Calls Tryz.prog 15 #[.agg #[.bool true,.slice a1 n1 c1,.slice a2 n2 c2],.agg #[.bool true,.slice a3 n3 c3,.slice a4 n4 c4]] w fun en w'=>en = .returned (.tuple #[.int .i64 1,.int .i64 0])∧Below w.heap.size w w':=ycmp_far true false a1 a2 a3 a4 n1 n2 n3 n4 c1 c2 c3 c4 w HC HS HF
end Go.Proofs.YtpmmapoabbpaiaaGreat
