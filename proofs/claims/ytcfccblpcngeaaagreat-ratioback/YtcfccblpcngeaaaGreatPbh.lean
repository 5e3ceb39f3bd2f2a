/- Of what RatioBackRow stands on: RbChk RzRat RzDif RbLawW. -/
import Derived.Test.YtcfccblpcngeaaaGreatPbg
import Derived.Test.YtcfccblpcngeaaaGreatPbe
import Derived.Test.YtcfccblpcngeaaaGreatPaw
import Derived.Test.YtcfccblpcngeaaaGreatPbf
import Derived.Test.YtcfccblpcngeaaaGreatPba
namespace Go.Proofs.YtcfccblpcngeaaaGreat
open Go.RowKit
set_option maxHeartbeats 2000000
set_option maxRecDepth 20000
theorem gcd_one {x y:Nat} (hg:Nat.gcd x y = 1) {W:World} {a b:Option Addr} {n c k l:Nat} (h1:Num W a n x) (h2:Num W b k y):Calls Tryz.prog 38 #[.agg #[.slice a n c],.agg #[.slice b k l]] W fun en W'=>(∃ A N C,en = .returned (.tuple #[.agg #[.slice A N C],.int .i64 0])∧Mine W' W.heap.size A N C 1)∧Below W.heap.size W W':=by
 have h:=gcd_any a b n k c l x y W h1 h2
 rw [hg] at h; exact h
theorem zchk_t (w:World) (a b:Option Addr) (n c k l x y:Nat) (h1:Num w a n x) (h2:Num w b k y) (hy:y≠0) (hx:x≠0) (hg:Nat.gcd x y = 1)  :
  Calls Tryz.prog 15 #[.agg #[.bool true,.slice a n c,.slice b k l]] w fun en w'=>en = .returned (.int .i64 0)∧Below w.heap.size w w':=by
 refine calls_sym Tryz.func15 rfl (by kernel_rfl) fun T hK=>?_
 replace hK:Kn T _ [(0,.agg #[.bool true,.slice a n c,.slice b k l])]:=hK
 have hS:=Fb.begin w
 have hG:GsAt [gN a n x,gN b k y] w:=⟨h1,h2,trivial⟩
 refine wq hS hG hK (fun p1=>[.n 1 #[.bool true,.slice a n c,.slice b k l] 30,.v 2 (.int .i64 0)]) (fun p1=>[(1,pT (p1 0).N 0),(2,.int .i64 0)]) (fun p1=>?_) (fun p1 W1 T hF hK=>?_)
 ·refine okn ?_
  refine okv ?_
  exact ok_nil
 replace hS:=SymF.fc hS hF [1000] [⟨(p1 0).N,#[.bool true,.slice a n c,.slice b k l],30,true⟩]
 replace hG:=hF.gx
 clear hF
 refine wp_seq ?_
 refine wq hS hG hK (fun p2=>[.v 5 (pT (p1 0).N 2),.l 6 (.agg #[.slice b k l]) 0 2,.c (some 7) (cV (.bool false)),.v 8 (.bool false),.v 9 (pT (p1 0).N 0),.l 10 (.bool true) 0 0,.v 11 (.bool true),.v 12 (pT (p1 0).N 1),.l 13 (.agg #[.slice a n c]) 0 1,.c (some 14) (cV (.bool false)),.v 15 (.bool false),.v 16 (.bool false)]) (fun p2=>[(1,pT (p1 0).N 0),(2,.int .i64 0),(16,.bool false)]) (fun p2=>?_) (fun p2 W2 T hF hK=>?_)
 ·refine okv ?_
  refine okl ?_
  refine okc (fun W cx=>as_v (znought b _ l _ _ ((Num.zdec (cx.G.2.1)).trans (decide_eq_false hy)))) ?_
  iterate 2 refine okv ?_
  refine okl ?_
  iterate 2 refine okv ?_
  refine okl ?_
  refine okc (fun W cx=>as_v (znought a _ c _ _ ((Num.zdec (cx.G.1)).trans (decide_eq_false hx)))) ?_
  iterate 2 refine okv ?_
  exact ok_nil
 obtain ⟨hS,hG⟩:=SymF.fg hS hF
 clear hF
 refine wp_cond_false (hK.ew 16) (wp_skip (then_n ?_))
 refine wq hS hG hK (fun p3=>[.v 18 (pT (p1 0).N 1),.l 19 (.agg #[.slice a n c]) 0 1,.v 20 (pT (p1 0).N 2),.l 21 (.agg #[.slice b k l]) 0 2,.c (some 22) (cO W2.heap.size 1),.v 17 (.tuple #[.agg #[.slice (p3 4).A (p3 4).N (p3 4).C],.int .i64 0]),.v 23 (.agg #[.slice (p3 4).A (p3 4).N (p3 4).C]),.v 24 (.int .i64 0),.n 3 #[.slice none 0 0] 28,.p 1008 0 [.slice (p3 4).A (p3 4).N (p3 4).C],.v 4 (.int .i64 0)]) (fun p3=>[(2,.int .i64 0),(3,pT (p3 8).N 0),(4,.int .i64 0)]) (fun p3=>?_) (fun p3 W3 T hF hK=>?_)
 ·refine okv ?_
  refine okl ?_
  refine okv ?_
  refine okl ?_
  refine okc (fun W cx=>as_o cx.hb (gcd_one (c:=c) (l:=l) hg (cx.G.1) (cx.G.2.1))) ?_
  iterate 3 refine okv ?_
  refine okn ?_
  refine okp ?_
  refine okv ?_
  exact ok_nil
 replace hS:=SymF.fc hS hF [1008] [⟨(p3 8).N,#[.slice (p3 4).A (p3 4).N (p3 4).C],28,true⟩]
 replace hG:GsAt (gM W2.heap.size (p3 4).A (p3 4).N (p3 4).C 1 :: _) W3:=⟨hF.fx 4,hF.gx⟩
 clear hF
 refine wp_seq ?_
 refine wq hS hG hK (fun p4=>[.v 25 (.int .i64 0),.v 26 (.bool false),.v 27 (.bool false),.l 28 (.agg #[.slice (p3 4).A (p3 4).N (p3 4).C]) 0 0,.c (some 29) (cV (.bool true)),.v 30 (.bool false),.v 31 (.bool false)]) (fun p4=>[(2,.int .i64 0),(31,.bool false)]) (fun p4=>?_) (fun p4 W4 T hF hK=>?_)
 ·iterate 3 refine okv ?_
  refine okl ?_
  refine okc (fun W cx=>as_v (zone_any _ _ (p3 4).C 1 _ (Mine.num cx.G.1))) ?_
  iterate 2 refine okv ?_
  exact ok_nil
 obtain ⟨hS,hG⟩:=SymF.fg hS hF
 clear hF
 refine wp_cond_false (hK.ew 31) (wp_skip (then_n ?_))
 refine wq hS hG hK (fun p5=>[.v 2 (.int .i64 0)]) (fun p5=>[(2,.int .i64 0)]) (fun p5=>?_) (fun p5 W5 T hF hK=>?_)
 ·refine okv ?_
  exact ok_nil
 obtain ⟨hS,hG⟩:=SymF.fg hS hF
 clear hF
 refine wp_ret ?_
 exact sym_end hS hK (.int .i64 0) [] [] (by kernel_rfl) (by kernel_rfl) ⟨rfl,hS.fr⟩
theorem zchk_f (w:World) (a b:Option Addr) (n c k l x y:Nat) (h1:Num w a n x) (h2:Num w b k y) (hy:y≠0) (hg:Nat.gcd x y = 1)  :
  Calls Tryz.prog 15 #[.agg #[.bool false,.slice a n c,.slice b k l]] w fun en w'=>en = .returned (.int .i64 0)∧Below w.heap.size w w':=by
 refine calls_sym Tryz.func15 rfl (by kernel_rfl) fun T hK=>?_
 replace hK:Kn T _ [(0,.agg #[.bool false,.slice a n c,.slice b k l])]:=hK
 have hS:=Fb.begin w
 have hG:GsAt [gN a n x,gN b k y] w:=⟨h1,h2,trivial⟩
 refine wq hS hG hK (fun p1=>[.n 1 #[.bool false,.slice a n c,.slice b k l] 30,.v 2 (.int .i64 0)]) (fun p1=>[(1,pT (p1 0).N 0),(2,.int .i64 0)]) (fun p1=>?_) (fun p1 W1 T hF hK=>?_)
 ·refine okn ?_
  refine okv ?_
  exact ok_nil
 replace hS:=SymF.fc hS hF [1000] [⟨(p1 0).N,#[.bool false,.slice a n c,.slice b k l],30,true⟩]
 replace hG:=hF.gx
 clear hF
 refine wp_seq ?_
 refine wq hS hG hK (fun p2=>[.v 5 (pT (p1 0).N 2),.l 6 (.agg #[.slice b k l]) 0 2,.c (some 7) (cV (.bool false)),.v 8 (.bool false),.v 9 (pT (p1 0).N 0),.l 10 (.bool false) 0 0,.v 11 (.bool false),.k (some 12),.k (some 13),.k (some 14),.v 15 (.bool false),.v 16 (.bool false)]) (fun p2=>[(1,pT (p1 0).N 0),(2,.int .i64 0),(16,.bool false)]) (fun p2=>?_) (fun p2 W2 T hF hK=>?_)
 ·refine okv ?_
  refine okl ?_
  refine okc (fun W cx=>as_v (znought b _ l _ _ ((Num.zdec (cx.G.2.1)).trans (decide_eq_false hy)))) ?_
  iterate 2 refine okv ?_
  refine okl ?_
  refine okv ?_
  iterate 3 refine okk ?_
  iterate 2 refine okv ?_
  exact ok_nil
 obtain ⟨hS,hG⟩:=SymF.fg hS hF
 clear hF
 refine wp_cond_false (hK.ew 16) (wp_skip (then_n ?_))
 refine wq hS hG hK (fun p3=>[.v 18 (pT (p1 0).N 1),.l 19 (.agg #[.slice a n c]) 0 1,.v 20 (pT (p1 0).N 2),.l 21 (.agg #[.slice b k l]) 0 2,.c (some 22) (cO W2.heap.size 1),.v 17 (.tuple #[.agg #[.slice (p3 4).A (p3 4).N (p3 4).C],.int .i64 0]),.v 23 (.agg #[.slice (p3 4).A (p3 4).N (p3 4).C]),.v 24 (.int .i64 0),.n 3 #[.slice none 0 0] 28,.p 1008 0 [.slice (p3 4).A (p3 4).N (p3 4).C],.v 4 (.int .i64 0)]) (fun p3=>[(2,.int .i64 0),(3,pT (p3 8).N 0),(4,.int .i64 0)]) (fun p3=>?_) (fun p3 W3 T hF hK=>?_)
 ·refine okv ?_
  refine okl ?_
  refine okv ?_
  refine okl ?_
  refine okc (fun W cx=>as_o cx.hb (gcd_one (c:=c) (l:=l) hg (cx.G.1) (cx.G.2.1))) ?_
  iterate 3 refine okv ?_
  refine okn ?_
  refine okp ?_
  refine okv ?_
  exact ok_nil
 replace hS:=SymF.fc hS hF [1008] [⟨(p3 8).N,#[.slice (p3 4).A (p3 4).N (p3 4).C],28,true⟩]
 replace hG:GsAt (gM W2.heap.size (p3 4).A (p3 4).N (p3 4).C 1 :: _) W3:=⟨hF.fx 4,hF.gx⟩
 clear hF
 refine wp_seq ?_
 refine wq hS hG hK (fun p4=>[.v 25 (.int .i64 0),.v 26 (.bool false),.v 27 (.bool false),.l 28 (.agg #[.slice (p3 4).A (p3 4).N (p3 4).C]) 0 0,.c (some 29) (cV (.bool true)),.v 30 (.bool false),.v 31 (.bool false)]) (fun p4=>[(2,.int .i64 0),(31,.bool false)]) (fun p4=>?_) (fun p4 W4 T hF hK=>?_)
 ·iterate 3 refine okv ?_
  refine okl ?_
  refine okc (fun W cx=>as_v (zone_any _ _ (p3 4).C 1 _ (Mine.num cx.G.1))) ?_
  iterate 2 refine okv ?_
  exact ok_nil
 obtain ⟨hS,hG⟩:=SymF.fg hS hF
 clear hF
 refine wp_cond_false (hK.ew 31) (wp_skip (then_n ?_))
 refine wq hS hG hK (fun p5=>[.v 2 (.int .i64 0)]) (fun p5=>[(2,.int .i64 0)]) (fun p5=>?_) (fun p5 W5 T hF hK=>?_)
 ·refine okv ?_
  exact ok_nil
 obtain ⟨hS,hG⟩:=SymF.fg hS hF
 clear hF
 refine wp_ret ?_
 exact sym_end hS hK (.int .i64 0) [] [] (by kernel_rfl) (by kernel_rfl) ⟨rfl,hS.fr⟩
theorem zsame_no (w:World) (s t:Bool) (a1 a2 a3 a4:Option Addr) (n1 n2 n3 n4 c1 c2 c3 c4 m1 d1 m2 d2:Nat) (p q:Bool) (h1:Num w a1 n1 m1) (h2:Num w a2 n2 d1) (h3:Num w a3 n3 m2) (h4:Num w a4 n4 d2) (hst:(s == t) = false) (H1:Hid (∀ W:World,Num W a1 n1 m1→Num W a3 n3 m2→Calls Tryz.prog 53 #[.agg #[.slice a1 n1 c1],.agg #[.slice a3 n3 c3]] W fun e W'=>e = .returned (.bool p)∧Below W.heap.size W W')) (H2:Hid (∀ W:World,Num W a2 n2 d1→Num W a4 n4 d2→Calls Tryz.prog 53 #[.agg #[.slice a2 n2 c2],.agg #[.slice a4 n4 c4]] W fun e W'=>e = .returned (.bool q)∧Below W.heap.size W W'))  :
  Calls Tryz.prog 30 #[.agg #[.bool s,.slice a1 n1 c1,.slice a2 n2 c2],.agg #[.bool t,.slice a3 n3 c3,.slice a4 n4 c4]] w fun en w'=>en = .returned (.bool false)∧Below w.heap.size w w':=by
 refine calls_sym Tryz.func30 rfl (by kernel_rfl) fun T hK=>?_
 replace hK:Kn T _ [(0,.agg #[.bool s,.slice a1 n1 c1,.slice a2 n2 c2]),(1,.agg #[.bool t,.slice a3 n3 c3,.slice a4 n4 c4])]:=hK
 have hS:=Fb.begin w
 have hG:GsAt [gN a1 n1 m1,gN a2 n2 d1,gN a3 n3 m2,gN a4 n4 d2] w:=⟨h1,h2,h3,h4,trivial⟩
 refine wq hS hG hK (fun p1=>[.n 2 #[.bool s,.slice a1 n1 c1,.slice a2 n2 c2] 30,.n 3 #[.bool t,.slice a3 n3 c3,.slice a4 n4 c4] 30,.v 4 (.bool false)]) (fun p1=>[(2,pT (p1 0).N 0),(3,pT (p1 1).N 0),(4,.bool false)]) (fun p1=>?_) (fun p1 W1 T hF hK=>?_)
 ·iterate 2 refine okn ?_
  refine okv ?_
  exact ok_nil
 replace hS:=SymF.fc hS hF [1000,1001] [⟨(p1 0).N,#[.bool s,.slice a1 n1 c1,.slice a2 n2 c2],30,true⟩,⟨(p1 1).N,#[.bool t,.slice a3 n3 c3,.slice a4 n4 c4],30,true⟩]
 replace hG:=hF.gx
 clear hF
 refine wq hS hG hK (fun p2=>[.v 7 (pT (p1 0).N 1),.l 8 (.agg #[.slice a1 n1 c1]) 0 1,.v 9 (pT (p1 1).N 1),.l 10 (.agg #[.slice a3 n3 c3]) 1 1,.c (some 11) (cV (.bool p)),.v 5 (.bool p)]) (fun p2=>[(2,pT (p1 0).N 0),(3,pT (p1 1).N 0),(4,.bool false),(5,.bool p)]) (fun p2=>?_) (fun p2 W2 T hF hK=>?_)
 ·refine okv ?_
  refine okl ?_
  refine okv ?_
  refine okl ?_
  refine okc (fun W cx=>as_v (unhide H1 _ (cx.G.1) (cx.G.2.2.1))) ?_
  refine okv ?_
  exact ok_nil
 obtain ⟨hS,hG⟩:=SymF.fg hS hF
 clear hF
 refine wq hS hG hK (fun p3=>[.v 12 (pT (p1 0).N 2),.l 13 (.agg #[.slice a2 n2 c2]) 0 2,.v 14 (pT (p1 1).N 2),.l 15 (.agg #[.slice a4 n4 c4]) 1 2,.c (some 16) (cV (.bool q)),.v 6 (.bool q)]) (fun p3=>[(2,pT (p1 0).N 0),(3,pT (p1 1).N 0),(4,.bool false),(5,.bool p),(6,.bool q)]) (fun p3=>?_) (fun p3 W3 T hF hK=>?_)
 ·refine okv ?_
  refine okl ?_
  refine okv ?_
  refine okl ?_
  refine okc (fun W cx=>as_v (unhide H2 _ (cx.G.2.1) (cx.G.2.2.2.1))) ?_
  refine okv ?_
  exact ok_nil
 obtain ⟨hS,hG⟩:=SymF.fg hS hF
 clear hF
 refine wq hS hG hK (fun p4=>[.v 17 (pT (p1 0).N 0),.l 18 (.bool s) 0 0,.v 19 (pT (p1 1).N 0),.l 20 (.bool t) 1 0,.v 21 (.bool false),.v 22 (.bool false),.k (some 23),.v 24 (.bool false),.v 25 (.bool false),.k (some 26),.v 27 (.bool false),.v 4 (.bool false)]) (fun p4=>[(4,.bool false)]) (fun p4=>?_) (fun p4 W4 T hF hK=>?_)
 ·refine okv ?_
  refine okl ?_
  refine okv ?_
  refine okl ?_
  refine okvb (hst) ?_
  refine okv ?_
  refine okk ?_
  iterate 2 refine okv ?_
  refine okk ?_
  iterate 2 refine okv ?_
  exact ok_nil
 obtain ⟨hS,hG⟩:=SymF.fg hS hF
 clear hF
 refine wp_ret ?_
 exact sym_end hS hK (.bool false) [] [] (by kernel_rfl) (by kernel_rfl) ⟨rfl,hS.fr⟩
theorem zlsm_no (w:World) (a1 a2 a3 a4:Option Addr) (n1 n2 n3 n4 c1 c2 c3 c4 m1 d1 m2 d2:Nat) (s t r:Bool) (h1:Num w a1 n1 m1) (h2:Num w a2 n2 d1) (h3:Num w a3 n3 m2) (h4:Num w a4 n4 d2) (HS:Hid (∀ W:World,Num W a1 n1 m1→Num W a2 n2 d1→Num W a3 n3 m2→Num W a4 n4 d2→Calls Tryz.prog 30 #[.agg #[.bool s,.slice a1 n1 c1,.slice a2 n2 c2],.agg #[.bool t,.slice a3 n3 c3,.slice a4 n4 c4]] W fun e W'=>e = .returned (.bool r)∧Below W.heap.size W W'))  :
  Calls Tryz.prog 11 #[.agg #[.bool s,.slice a1 n1 c1,.slice a2 n2 c2],.agg #[.bool t,.slice a3 n3 c3,.slice a4 n4 c4]] w fun en w'=>en = .returned (.bool r)∧Below w.heap.size w w':=by
 refine calls_sym Tryz.func11 rfl (by kernel_rfl) fun T hK=>?_
 replace hK:Kn T _ [(0,.agg #[.bool s,.slice a1 n1 c1,.slice a2 n2 c2]),(1,.agg #[.bool t,.slice a3 n3 c3,.slice a4 n4 c4])]:=hK
 have hS:=Fb.begin w
 have hG:GsAt [gN a1 n1 m1,gN a2 n2 d1,gN a3 n3 m2,gN a4 n4 d2] w:=⟨h1,h2,h3,h4,trivial⟩
 refine wq hS hG hK (fun p1=>[.n 2 #[.bool s,.slice a1 n1 c1,.slice a2 n2 c2] 30,.n 3 #[.bool t,.slice a3 n3 c3,.slice a4 n4 c4] 30,.v 4 (.bool false)]) (fun p1=>[(2,pT (p1 0).N 0),(3,pT (p1 1).N 0),(4,.bool false)]) (fun p1=>?_) (fun p1 W1 T hF hK=>?_)
 ·iterate 2 refine okn ?_
  refine okv ?_
  exact ok_nil
 replace hS:=SymF.fc hS hF [1000,1001] [⟨(p1 0).N,#[.bool s,.slice a1 n1 c1,.slice a2 n2 c2],30,true⟩,⟨(p1 1).N,#[.bool t,.slice a3 n3 c3,.slice a4 n4 c4],30,true⟩]
 replace hG:=hF.gx
 clear hF
 refine wq hS hG hK (fun p2=>[.l 5 (.agg #[.bool s,.slice a1 n1 c1,.slice a2 n2 c2]) 0 0,.l 6 (.agg #[.bool t,.slice a3 n3 c3,.slice a4 n4 c4]) 1 0,.c (some 7) (cV (.bool r)),.v 4 (.bool r)]) (fun p2=>[(4,.bool r)]) (fun p2=>?_) (fun p2 W2 T hF hK=>?_)
 ·iterate 2 refine okl ?_
  refine okc (fun W cx=>as_v (unhide HS _ (cx.G.1) (cx.G.2.1) (cx.G.2.2.1) (cx.G.2.2.2.1))) ?_
  refine okv ?_
  exact ok_nil
 obtain ⟨hS,hG⟩:=SymF.fg hS hF
 clear hF
 refine wp_ret ?_
 exact sym_end hS hK (.bool r) [] [] (by kernel_rfl) (by kernel_rfl) ⟨rfl,hS.fr⟩
theorem zsame_pf (w:World) (s t:Bool) (a1 a2 a3 a4:Option Addr) (n1 n2 n3 n4 c1 c2 c3 c4 m1 d1 m2 d2:Nat) (q:Bool) (h1:Num w a1 n1 m1) (h2:Num w a2 n2 d1) (h3:Num w a3 n3 m2) (h4:Num w a4 n4 d2) (hst:(s == t) = true) (H1:Hid (∀ W:World,Num W a1 n1 m1→Num W a3 n3 m2→Calls Tryz.prog 53 #[.agg #[.slice a1 n1 c1],.agg #[.slice a3 n3 c3]] W fun e W'=>e = .returned (.bool false)∧Below W.heap.size W W')) (H2:Hid (∀ W:World,Num W a2 n2 d1→Num W a4 n4 d2→Calls Tryz.prog 53 #[.agg #[.slice a2 n2 c2],.agg #[.slice a4 n4 c4]] W fun e W'=>e = .returned (.bool q)∧Below W.heap.size W W'))  :
  Calls Tryz.prog 30 #[.agg #[.bool s,.slice a1 n1 c1,.slice a2 n2 c2],.agg #[.bool t,.slice a3 n3 c3,.slice a4 n4 c4]] w fun en w'=>en = .returned (.bool false)∧Below w.heap.size w w':=by
 refine calls_sym Tryz.func30 rfl (by kernel_rfl) fun T hK=>?_
 replace hK:Kn T _ [(0,.agg #[.bool s,.slice a1 n1 c1,.slice a2 n2 c2]),(1,.agg #[.bool t,.slice a3 n3 c3,.slice a4 n4 c4])]:=hK
 have hS:=Fb.begin w
 have hG:GsAt [gN a1 n1 m1,gN a2 n2 d1,gN a3 n3 m2,gN a4 n4 d2] w:=⟨h1,h2,h3,h4,trivial⟩
 refine wq hS hG hK (fun p1=>[.n 2 #[.bool s,.slice a1 n1 c1,.slice a2 n2 c2] 30,.n 3 #[.bool t,.slice a3 n3 c3,.slice a4 n4 c4] 30,.v 4 (.bool false)]) (fun p1=>[(2,pT (p1 0).N 0),(3,pT (p1 1).N 0),(4,.bool false)]) (fun p1=>?_) (fun p1 W1 T hF hK=>?_)
 ·iterate 2 refine okn ?_
  refine okv ?_
  exact ok_nil
 replace hS:=SymF.fc hS hF [1000,1001] [⟨(p1 0).N,#[.bool s,.slice a1 n1 c1,.slice a2 n2 c2],30,true⟩,⟨(p1 1).N,#[.bool t,.slice a3 n3 c3,.slice a4 n4 c4],30,true⟩]
 replace hG:=hF.gx
 clear hF
 refine wq hS hG hK (fun p2=>[.v 7 (pT (p1 0).N 1),.l 8 (.agg #[.slice a1 n1 c1]) 0 1,.v 9 (pT (p1 1).N 1),.l 10 (.agg #[.slice a3 n3 c3]) 1 1,.c (some 11) (cV (.bool false)),.v 5 (.bool false)]) (fun p2=>[(2,pT (p1 0).N 0),(3,pT (p1 1).N 0),(4,.bool false),(5,.bool false)]) (fun p2=>?_) (fun p2 W2 T hF hK=>?_)
 ·refine okv ?_
  refine okl ?_
  refine okv ?_
  refine okl ?_
  refine okc (fun W cx=>as_v (unhide H1 _ (cx.G.1) (cx.G.2.2.1))) ?_
  refine okv ?_
  exact ok_nil
 obtain ⟨hS,hG⟩:=SymF.fg hS hF
 clear hF
 refine wq hS hG hK (fun p3=>[.v 12 (pT (p1 0).N 2),.l 13 (.agg #[.slice a2 n2 c2]) 0 2,.v 14 (pT (p1 1).N 2),.l 15 (.agg #[.slice a4 n4 c4]) 1 2,.c (some 16) (cV (.bool q)),.v 6 (.bool q)]) (fun p3=>[(2,pT (p1 0).N 0),(3,pT (p1 1).N 0),(4,.bool false),(5,.bool false),(6,.bool q)]) (fun p3=>?_) (fun p3 W3 T hF hK=>?_)
 ·refine okv ?_
  refine okl ?_
  refine okv ?_
  refine okl ?_
  refine okc (fun W cx=>as_v (unhide H2 _ (cx.G.2.1) (cx.G.2.2.2.1))) ?_
  refine okv ?_
  exact ok_nil
 obtain ⟨hS,hG⟩:=SymF.fg hS hF
 clear hF
 refine wq hS hG hK (fun p4=>[.v 17 (pT (p1 0).N 0),.l 18 (.bool s) 0 0,.v 19 (pT (p1 1).N 0),.l 20 (.bool t) 1 0,.v 21 (.bool true),.v 22 (.bool true),.v 23 (.bool false),.v 24 (.bool false),.v 25 (.bool false),.k (some 26),.v 27 (.bool false),.v 4 (.bool false)]) (fun p4=>[(4,.bool false)]) (fun p4=>?_) (fun p4 W4 T hF hK=>?_)
 ·refine okv ?_
  refine okl ?_
  refine okv ?_
  refine okl ?_
  refine okvb (hst) ?_
  iterate 4 refine okv ?_
  refine okk ?_
  iterate 2 refine okv ?_
  exact ok_nil
 obtain ⟨hS,hG⟩:=SymF.fg hS hF
 clear hF
 refine wp_ret ?_
 exact sym_end hS hK (.bool false) [] [] (by kernel_rfl) (by kernel_rfl) ⟨rfl,hS.fr⟩
theorem zsame_pt (w:World) (s t:Bool) (a1 a2 a3 a4:Option Addr) (n1 n2 n3 n4 c1 c2 c3 c4 m1 d1 m2 d2:Nat) (q:Bool) (h1:Num w a1 n1 m1) (h2:Num w a2 n2 d1) (h3:Num w a3 n3 m2) (h4:Num w a4 n4 d2) (hst:(s == t) = true) (H1:Hid (∀ W:World,Num W a1 n1 m1→Num W a3 n3 m2→Calls Tryz.prog 53 #[.agg #[.slice a1 n1 c1],.agg #[.slice a3 n3 c3]] W fun e W'=>e = .returned (.bool true)∧Below W.heap.size W W')) (H2:Hid (∀ W:World,Num W a2 n2 d1→Num W a4 n4 d2→Calls Tryz.prog 53 #[.agg #[.slice a2 n2 c2],.agg #[.slice a4 n4 c4]] W fun e W'=>e = .returned (.bool q)∧Below W.heap.size W W'))  :
  Calls Tryz.prog 30 #[.agg #[.bool s,.slice a1 n1 c1,.slice a2 n2 c2],.agg #[.bool t,.slice a3 n3 c3,.slice a4 n4 c4]] w fun en w'=>en = .returned (.bool q)∧Below w.heap.size w w':=by
 refine calls_sym Tryz.func30 rfl (by kernel_rfl) fun T hK=>?_
 replace hK:Kn T _ [(0,.agg #[.bool s,.slice a1 n1 c1,.slice a2 n2 c2]),(1,.agg #[.bool t,.slice a3 n3 c3,.slice a4 n4 c4])]:=hK
 have hS:=Fb.begin w
 have hG:GsAt [gN a1 n1 m1,gN a2 n2 d1,gN a3 n3 m2,gN a4 n4 d2] w:=⟨h1,h2,h3,h4,trivial⟩
 refine wq hS hG hK (fun p1=>[.n 2 #[.bool s,.slice a1 n1 c1,.slice a2 n2 c2] 30,.n 3 #[.bool t,.slice a3 n3 c3,.slice a4 n4 c4] 30,.v 4 (.bool false)]) (fun p1=>[(2,pT (p1 0).N 0),(3,pT (p1 1).N 0),(4,.bool false)]) (fun p1=>?_) (fun p1 W1 T hF hK=>?_)
 ·iterate 2 refine okn ?_
  refine okv ?_
  exact ok_nil
 replace hS:=SymF.fc hS hF [1000,1001] [⟨(p1 0).N,#[.bool s,.slice a1 n1 c1,.slice a2 n2 c2],30,true⟩,⟨(p1 1).N,#[.bool t,.slice a3 n3 c3,.slice a4 n4 c4],30,true⟩]
 replace hG:=hF.gx
 clear hF
 refine wq hS hG hK (fun p2=>[.v 7 (pT (p1 0).N 1),.l 8 (.agg #[.slice a1 n1 c1]) 0 1,.v 9 (pT (p1 1).N 1),.l 10 (.agg #[.slice a3 n3 c3]) 1 1,.c (some 11) (cV (.bool true)),.v 5 (.bool true)]) (fun p2=>[(2,pT (p1 0).N 0),(3,pT (p1 1).N 0),(4,.bool false),(5,.bool true)]) (fun p2=>?_) (fun p2 W2 T hF hK=>?_)
 ·refine okv ?_
  refine okl ?_
  refine okv ?_
  refine okl ?_
  refine okc (fun W cx=>as_v (unhide H1 _ (cx.G.1) (cx.G.2.2.1))) ?_
  refine okv ?_
  exact ok_nil
 obtain ⟨hS,hG⟩:=SymF.fg hS hF
 clear hF
 refine wq hS hG hK (fun p3=>[.v 12 (pT (p1 0).N 2),.l 13 (.agg #[.slice a2 n2 c2]) 0 2,.v 14 (pT (p1 1).N 2),.l 15 (.agg #[.slice a4 n4 c4]) 1 2,.c (some 16) (cV (.bool q)),.v 6 (.bool q)]) (fun p3=>[(2,pT (p1 0).N 0),(3,pT (p1 1).N 0),(4,.bool false),(5,.bool true),(6,.bool q)]) (fun p3=>?_) (fun p3 W3 T hF hK=>?_)
 ·refine okv ?_
  refine okl ?_
  refine okv ?_
  refine okl ?_
  refine okc (fun W cx=>as_v (unhide H2 _ (cx.G.2.1) (cx.G.2.2.2.1))) ?_
  refine okv ?_
  exact ok_nil
 obtain ⟨hS,hG⟩:=SymF.fg hS hF
 clear hF
 refine wq hS hG hK (fun p4=>[.v 17 (pT (p1 0).N 0),.l 18 (.bool s) 0 0,.v 19 (pT (p1 1).N 0),.l 20 (.bool t) 1 0,.v 21 (.bool true),.v 22 (.bool true),.v 23 (.bool true),.v 24 (.bool true),.v 25 (.bool true),.v 26 (.bool q),.v 27 (.bool q),.v 4 (.bool q)]) (fun p4=>[(4,.bool q)]) (fun p4=>?_) (fun p4 W4 T hF hK=>?_)
 ·refine okv ?_
  refine okl ?_
  refine okv ?_
  refine okl ?_
  refine okvb (hst) ?_
  iterate 7 refine okv ?_
  exact ok_nil
 obtain ⟨hS,hG⟩:=SymF.fg hS hF
 clear hF
 refine wp_ret ?_
 exact sym_end hS hK (.bool q) [] [] (by kernel_rfl) (by kernel_rfl) ⟨rfl,hS.fr⟩
theorem zchk_all (s:Bool) {x y:Nat} (hy:0 < y) (hg:Nat.gcd x y = 1) (hs:s = true→0 < x) (W:World) (a:Option Addr) (n c:Nat) (b:Option Addr) (k l:Nat) (h1:Num W a n x) (h2:Num W b k y):Calls Tryz.prog 15 #[.agg #[.bool s,.slice a n c,.slice b k l]] W fun e W'=>e = .returned (.int .i64 0)∧Below W.heap.size W W':=by
 cases s
 ·exact zchk_f W a b n c k l x y h1 h2 (by omega) hg
 ·exact zchk_t W a b n c k l x y h1 h2 (by omega) (by have:=hs rfl; omega) hg
theorem zsame_all (s t:Bool) (m1 d1 m2 d2:Nat) (W:World) (a1:Option Addr) (n1 c1:Nat) (a2:Option Addr) (n2 c2:Nat) (a3:Option Addr) (n3 c3:Nat) (a4:Option Addr) (n4 c4:Nat) (h1:Num W a1 n1 m1) (h2:Num W a2 n2 d1) (h3:Num W a3 n3 m2) (h4:Num W a4 n4 d2) (r:Bool) (hr:decide (s = t∧m1 = m2∧d1 = d2) = r) :
  Calls Tryz.prog 11 #[.agg #[.bool s,.slice a1 n1 c1,.slice a2 n2 c2],.agg #[.bool t,.slice a3 n3 c3,.slice a4 n4 c4]] W fun e W'=>e = .returned (.bool r)∧Below W.heap.size W W':=by
 refine zlsm_no W a1 a2 a3 a4 n1 n2 n3 n4 c1 c2 c3 c4 m1 d1 m2 d2 s t r h1 h2 h3 h4 (hide fun W h1 h2 h3 h4=>?_)
 have k1:∀ b,decide (m1 = m2) = b→Hid (∀ W:World,Num W a1 n1 m1→Num W a3 n3 m2→Calls Tryz.prog 53 #[.agg #[.slice a1 n1 c1],.agg #[.slice a3 n3 c3]] W fun e W'=>e = .returned (.bool b)∧Below W.heap.size W W'):=fun b hb=>hide fun W k k'=>by
  rw [← hb]; exact sameNat_any a1 a3 n1 n3 c1 c3 m1 m2 W k k'
 have k2:∀ b,decide (d1 = d2) = b→Hid (∀ W:World,Num W a2 n2 d1→Num W a4 n4 d2→Calls Tryz.prog 53 #[.agg #[.slice a2 n2 c2],.agg #[.slice a4 n4 c4]] W fun e W'=>e = .returned (.bool b)∧Below W.heap.size W W'):=fun b hb=>hide fun W k k'=>by
  rw [← hb]; exact sameNat_any a2 a4 n2 n4 c2 c4 d1 d2 W k k'
 by_cases hst:s = t
 ·subst hst
  by_cases hm:m1 = m2
  ·have e:r = decide (d1 = d2):=by rw [← hr]; simp [hm]
   rw [e]
   exact zsame_pt W s s a1 a2 a3 a4 n1 n2 n3 n4 c1 c2 c3 c4 m1 d1 m2 d2 _ h1 h2 h3 h4 (beq_self_eq_true s) (k1 true (decide_eq_true hm)) (k2 _ rfl)
  ·have e:r = false:=by rw [← hr]; simp [hm]
   rw [e]
   exact zsame_pf W s s a1 a2 a3 a4 n1 n2 n3 n4 c1 c2 c3 c4 m1 d1 m2 d2 _ h1 h2 h3 h4 (beq_self_eq_true s) (k1 false (decide_eq_false hm)) (k2 _ rfl)
 ·have e:r = false:=by rw [← hr]; simp [hst]
  rw [e]
  exact zsame_no W s t a1 a2 a3 a4 n1 n2 n3 n4 c1 c2 c3 c4 m1 d1 m2 d2 _ _ h1 h2 h3 h4 (beq_false_of_ne hst) (k1 _ rfl) (k2 _ rfl)
theorem zover_mono {m n:Nat} (hmn:m≤n) (h:Over m):Over n:=⟨Nat.le_trans h.le hmn⟩
structure SmR (N m1 d1 m2 d2:Nat):Prop where
 a:m1≤N
 b:d1≤N
 c:m2≤N
 d:d2≤N
 p1:0 < d1
 p2:0 < d2
 o:∀ v,v≤8 * (N * N * N)+8→¬ Over v
theorem SmR.two {N m1 d1 m2 d2:Nat} (h:SmR N m1 d1 m2 d2) {v:Nat} (hv:v≤N * N):¬ Over v:=by
 have h0:0 < N:=Nat.lt_of_lt_of_le h.p1 h.b
 have:=Nat.le_mul_of_pos_right (N * N) h0
 exact h.o v (by omega)
theorem SmR.wmo {N m1 d1 m2 d2:Nat} (h:SmR N m1 d1 m2 d2) (p:Nat) {x y z:Nat} (hz:0 < z) (hx:x≤N) (hy:y≤N):WMo p x y z (x * y / z) (x * y % z):=
 wmo_ok p x y hz (h.two (Nat.mul_le_mul (Nat.le_trans (Nat.mod_le x z) hx) hy)) (h.two (Nat.le_trans (Nat.div_le_self _ _) (Nat.mul_le_mul hx hy))) zover_mono
theorem spl_d {N m1 d1 m2 d2:Nat} (h:SmR N m1 d1 m2 d2) (p:Nat) (s t:Bool) (hst:(s == t) = false):WSpl p s t m1 d1 m2 d2 (m1 / d1) (m2 / d2) (Rm.partA false m1 d1 m2 d2) (Rm.partB false m1 d1 m2 d2) (Rm.sden false m1 d1 m2 d2) (!decide (Rm.broken false m1 d1 m2 d2 = 0)):=fun W a1 n1 c1 a2 n2 c2 a3 n3 c3 a4 n4 c4 hR h1 h2 h3 h4=>by
 have hg:0 < Nat.gcd d1 d2:=Nat.gcd_pos_of_pos_left _ h.p1
 have hl:0 < Rm.lost false m1 d1 m2 d2:=Nat.gcd_pos_of_pos_right _ hg
 have x1:m1 % d1≤N:=Nat.le_trans (Nat.le_of_lt (Nat.mod_lt _ h.p1)) h.b
 have x2:m2 % d2≤N:=Nat.le_trans (Nat.le_of_lt (Nat.mod_lt _ h.p2)) h.d
 have y1:d2 / Nat.gcd d1 d2≤N:=Nat.le_trans (Nat.div_le_self _ _) h.d
 have y2:d1 / Nat.gcd d1 d2≤N:=Nat.le_trans (Nat.div_le_self _ _) h.b
 have y3:d2 / Rm.lost false m1 d1 m2 d2≤N:=Nat.le_trans (Nat.div_le_self _ _) h.d
 exact zspl_d W p a1 a2 a3 a4 n1 n2 n3 n4 c1 c2 c3 c4 m1 d1 m2 d2 s t (decide (Rm.broken false m1 d1 m2 d2 = 0)) (m1 / d1) (m1 % d1) (m2 / d2) (m2 % d2) (Nat.gcd d1 d2) (d2 / Nat.gcd d1 d2) (d1 / Nat.gcd d1 d2) (m1 % d1 * (d2 / Nat.gcd d1 d2) / Nat.gcd d1 d2) (m1 % d1 * (d2 / Nat.gcd d1 d2) % Nat.gcd d1 d2) (m2 % d2 * (d1 / Nat.gcd d1 d2) / Nat.gcd d1 d2) (m2 % d2 * (d1 / Nat.gcd d1 d2) % Nat.gcd d1 d2) (Rm.dist (m1 % d1 * (d2 / Nat.gcd d1 d2) % Nat.gcd d1 d2) (m2 % d2 * (d1 / Nat.gcd d1 d2) % Nat.gcd d1 d2)) (Rm.lost false m1 d1 m2 d2) (d2 / Rm.lost false m1 d1 m2 d2) (Rm.sden false m1 d1 m2 d2) (Rm.partA false m1 d1 m2 d2) (Rm.broken false m1 d1 m2 d2) (Rm.partB false m1 d1 m2 d2) (m2 % d2 * (d1 / Nat.gcd d1 d2) % Rm.lost false m1 d1 m2 d2) hR h1 h2 h3 h4
  (hide (wdiv_ok p m1 h.p1)) (hide (wdiv_ok p m2 h.p2)) (hide (wgcd_ok p d1 d2)) (hide (wover_ok p d2 hg)) (hide (wover_ok p d1 hg)) (hide (h.wmo p hg x1 y1)) (hide (h.wmo p hg x2 y2)) (hide (wdist_ok p _ _)) (hide (wgcd_ok p _ _)) (hide (wover_ok p d2 hl)) (hide (wmul_ok p (h.two (Nat.mul_le_mul y2 y3)))) (hide (h.wmo p hl x1 y1)) (hide (h.wmo p hl x2 y2)) rfl hst
theorem SmR.parts {N m1 d1 m2 d2:Nat} (h:SmR N m1 d1 m2 d2) (same:Bool):Rm.partA same m1 d1 m2 d2≤N * N∧Rm.partB same m1 d1 m2 d2≤N * N∧Rm.sden same m1 d1 m2 d2≤N * N∧m1 / d1≤N∧m2 / d2≤N:=by
 have x1:m1 % d1≤N:=Nat.le_trans (Nat.le_of_lt (Nat.mod_lt _ h.p1)) h.b
 have x2:m2 % d2≤N:=Nat.le_trans (Nat.le_of_lt (Nat.mod_lt _ h.p2)) h.d
 have y1:d2 / Nat.gcd d1 d2≤N:=Nat.le_trans (Nat.div_le_self _ _) h.d
 have y2:d1 / Nat.gcd d1 d2≤N:=Nat.le_trans (Nat.div_le_self _ _) h.b
 have y3:d2 / Rm.lost same m1 d1 m2 d2≤N:=Nat.le_trans (Nat.div_le_self _ _) h.d
 exact ⟨Nat.le_trans (Nat.div_le_self _ _) (Nat.mul_le_mul x1 y1),Nat.le_trans (Nat.div_le_self _ _) (Nat.mul_le_mul x2 y2),Nat.mul_le_mul y2 y3,Nat.le_trans (Nat.div_le_self _ _) h.a,Nat.le_trans (Nat.div_le_self _ _) h.c⟩
theorem wbel_ok (p wa wb pa pb:Nat):WBel p wa wb pa pb (decide (wa < wb∨wa = wb∧pa < pb)):=fun W a1 n1 c1 a2 n2 c2 a3 n3 c3 a4 n4 c4 a5 n5 c5 b hR h1 h2 h3 h4=>by
 by_cases he:wa = wb
 ·refine zbel_eq W p a1 a2 a3 a4 a5 n1 n2 n3 n4 n5 c1 c2 c3 c4 c5 wa wb pa pb b _ _ _ hR h1 h2 h3 h4 (hide (wcmp_ok p wa wb)) (by unfold cmpI; rw [if_neg (by omega),if_pos he]) (hide (wcmp_ok p pa pb)) ?_
  unfold cmpI
  by_cases hp:pa < pb
  ·rw [if_pos hp,decide_eq_true (p:=wa < wb∨wa = wb∧pa < pb) (Or.inr ⟨he,hp⟩)]; rfl
  ·rw [if_neg hp,decide_eq_false (p:=wa < wb∨wa = wb∧pa < pb) (by omega)]; split <;> rfl
 ·refine zbel_ne W p a1 a2 a3 a4 a5 n1 n2 n3 n4 n5 c1 c2 c3 c4 c5 wa wb pa pb b _ _ hR h1 h2 h3 h4 (hide (wcmp_ok p wa wb)) (by unfold cmpI; split <;> (try split) <;> first|decide|omega) ?_
  unfold cmpI
  by_cases hp:wa < wb
  ·rw [if_pos hp,decide_eq_true (p:=wa < wb∨wa = wb∧pa < pb) (Or.inl hp)]; rfl
  ·rw [if_neg hp,if_neg he,decide_eq_false (p:=wa < wb∨wa = wb∧pa < pb) (by omega)]; rfl
theorem zcI_lt {x y:Nat} (h:x < y):cmpI x y < 0:=by unfold cmpI; rw [if_pos h]; decide
theorem zcI_ge {x y:Nat} (h:y≤x):0≤cmpI x y:=by unfold cmpI; rw [if_neg (by omega)]; split <;> decide
theorem lex_ge {X1 X2 y1 y2 D:Nat} (hX:X2≤X1) (hy:y2≤y1):X1 * D+y1 - (X2 * D+y2) = (X1 - X2) * D+(y1 - y2):=by
 obtain ⟨k,rfl⟩:=Nat.exists_eq_add_of_le hX
 rw [Nat.add_mul,Nat.add_sub_cancel_left]; omega
theorem lex_lo {X1 X2 y1 y2 D:Nat} (hX:X2 < X1) (hD:y2 < D):X1 * D+y1 - (X2 * D+y2) = (X1 - X2 - 1) * D+(D - y2+y1 - 0):=by
 obtain ⟨k,rfl⟩:=Nat.exists_eq_add_of_le (show X2+1≤X1 from hX)
 have e:X2+1+k - X2 - 1 = k:=by omega
 rw [e,Nat.add_mul,Nat.add_mul,Nat.one_mul]; omega
theorem apa_ok {N m1 d1 m2 d2:Nat} (h:SmR N m1 d1 m2 d2) (hc1:Nat.gcd m1 d1 = 1) (hc2:Nat.gcd m2 d2 = 1) (p:Nat) (s t:Bool) (hst:(s == t) = false):WSum 55 p s t m1 d1 m2 d2 (Rm.dnum m1 d1 m2 d2) (Rm.sden false m1 d1 m2 d2) ((if Rm.low m1 d1 m2 d2 then t else s) && !decide (Rm.dnum m1 d1 m2 d2 = 0)):=fun W a1 n1 c1 a2 n2 c2 a3 n3 c3 a4 n4 c4 hR h1 h2 h3 h4=>by
 have h0:0 < N:=Nat.lt_of_lt_of_le h.p1 h.b
 obtain ⟨b1,b2,b3,b4,b5⟩:=h.parts false
 have hNN:=Nat.le_mul_of_pos_right (N * N) h0
 have hN1:N≤N * N:=Nat.le_mul_of_pos_right N h0
 have b7:N * (N * N) = N * N * N:=by rw [Nat.mul_comm]
 obtain ⟨_,_,_,_,_,_,_,_,_,_,P⟩:=Rm.parts false h.p1 h.p2 hc1 hc2
 have hA:=P.hA
 have hB:=P.hB
 have HS:=spl_d h p s t hst
 have HB:=wbel_ok p (m1 / d1) (m2 / d2) (Rm.partA false m1 d1 m2 d2) (Rm.partB false m1 d1 m2 d2)
 obtain ⟨wa,ea⟩:∃ wa,wa = m1 / d1:=⟨_,rfl⟩
 obtain ⟨wb,eb⟩:∃ wb,wb = m2 / d2:=⟨_,rfl⟩
 obtain ⟨pa,e1⟩:∃ pa,pa = Rm.partA false m1 d1 m2 d2:=⟨_,rfl⟩
 obtain ⟨pb,e2⟩:∃ pb,pb = Rm.partB false m1 d1 m2 d2:=⟨_,rfl⟩
 obtain ⟨dn,e3⟩:∃ dn,dn = Rm.sden false m1 d1 m2 d2:=⟨_,rfl⟩
 have hlw:Rm.low m1 d1 m2 d2↔(wa < wb∨wa = wb∧pa < pb):=by rw [ea,eb,e1,e2]; rfl
 have hdn:Rm.dnum m1 d1 m2 d2 = if Rm.low m1 d1 m2 d2 then wb * dn+pb - (wa * dn+pa) else wa * dn+pa - (wb * dn+pb):=by rw [ea,eb,e1,e2,e3]; rfl
 rw [← ea,← eb,← e1,← e2,← e3] at HS
 rw [← ea,← eb,← e1,← e2] at HB
 rw [← e1,← e3] at hA
 rw [← e2,← e3] at hB
 rw [← e1] at b1
 rw [← e2] at b2
 rw [← e3] at b3 ⊢
 rw [← ea] at b4
 rw [← eb] at b5
 have mulB:∀ X:Nat,X≤N→X * dn≤N * N * N:=fun X hX=>by rw [← b7]; exact Nat.mul_le_mul hX b3
 by_cases hlow:wa < wb∨wa = wb∧pa < pb
 ·rw [decide_eq_true hlow] at HB
  rw [if_pos (hlw.2 hlow)] at hdn ⊢
  rcases Nat.lt_or_ge pb pa with hy|hy
  ·have hX:wa < wb:=by omega
   have hz:=lex_lo (D:=dn) (y1:=pb) hX hA
   have m5:=mulB (wb - wa - 1) (by omega)
   rw [hz] at hdn
   have z7:=wadd_ok p (h.o ((wb - wa - 1) * dn+(dn - pa+pb - 0)) (by omega))
   rw [← hdn] at z7
   exact zapa_tl W p a1 a2 a3 a4 n1 n2 n3 n4 c1 c2 c3 c4 m1 d1 m2 d2 s t _ _ wa wb pa pb dn _ _ _ _ _ _ _ _ hR h1 h2 h3 h4 (hide HS) (hide HB) (hide (wsub_ok p (by omega))) (hide (wcmp_ok p pb pa)) (zcI_lt hy) (hide (wsub_ok p (by omega))) (hide (wsub_ok p (by omega))) (hide (wadd_ok p (h.o _ (by omega)))) (hide (wmul_ok p (h.o _ (by omega)))) (hide (wsub_ok p (Nat.zero_le _))) (hide z7) (hide (wfr_ok p t _ _))
  ·have hX:wa≤wb:=by omega
   have hz:=lex_ge (D:=dn) hX hy
   have m5:=mulB (wb - wa) (by omega)
   rw [hz] at hdn
   have z7:=wadd_ok p (h.o ((wb - wa) * dn+(pb - pa)) (by omega))
   rw [← hdn] at z7
   exact zapa_tg W p a1 a2 a3 a4 n1 n2 n3 n4 c1 c2 c3 c4 m1 d1 m2 d2 s t _ _ wa wb pa pb dn _ _ _ _ _ hR h1 h2 h3 h4 (hide HS) (hide HB) (hide (wsub_ok p (by omega))) (hide (wcmp_ok p pb pa)) (zcI_ge hy) (hide (wmul_ok p (h.o _ (by omega)))) (hide (wsub_ok p hy)) (hide z7) (hide (wfr_ok p t _ _))
 ·rw [decide_eq_false hlow] at HB
  rw [if_neg (fun hh=>hlow (hlw.1 hh))] at hdn ⊢
  rcases Nat.lt_or_ge pa pb with hy|hy
  ·have hX:wb < wa:=by omega
   have hz:=lex_lo (D:=dn) (y1:=pa) hX hB
   have m5:=mulB (wa - wb - 1) (by omega)
   rw [hz] at hdn
   have z7:=wadd_ok p (h.o ((wa - wb - 1) * dn+(dn - pb+pa - 0)) (by omega))
   rw [← hdn] at z7
   exact zapa_fl W p a1 a2 a3 a4 n1 n2 n3 n4 c1 c2 c3 c4 m1 d1 m2 d2 s t _ _ wa wb pa pb dn _ _ _ _ _ _ _ _ hR h1 h2 h3 h4 (hide HS) (hide HB) (hide (wsub_ok p (by omega))) (hide (wcmp_ok p pa pb)) (zcI_lt hy) (hide (wsub_ok p (by omega))) (hide (wsub_ok p (by omega))) (hide (wadd_ok p (h.o _ (by omega)))) (hide (wmul_ok p (h.o _ (by omega)))) (hide (wsub_ok p (Nat.zero_le _))) (hide z7) (hide (wfr_ok p s _ _))
  ·have hX:wb≤wa:=by omega
   have hz:=lex_ge (D:=dn) hX hy
   have m5:=mulB (wa - wb) (by omega)
   rw [hz] at hdn
   have z7:=wadd_ok p (h.o ((wa - wb) * dn+(pa - pb)) (by omega))
   rw [← hdn] at z7
   exact zapa_fg W p a1 a2 a3 a4 n1 n2 n3 n4 c1 c2 c3 c4 m1 d1 m2 d2 s t _ _ wa wb pa pb dn _ _ _ _ _ hR h1 h2 h3 h4 (hide HS) (hide HB) (hide (wsub_ok p (by omega))) (hide (wcmp_ok p pa pb)) (zcI_ge hy) (hide (wmul_ok p (h.o _ (by omega)))) (hide (wsub_ok p hy)) (hide z7) (hide (wfr_ok p s _ _))
theorem rback_walk (w:World) (s1 s2:Bool) (a1 a2 a3 a4:Option Addr) (n1 n2 n3 n4 c1 c2 c3 c4 bs be:Nat) (pw r r2:Int) (s t gu gm eb:Bool) (x y u v xu yu xm ym:Nat) (S V9:ByteArray) (HA:Hid (∀ W:World,Calls Tryz.prog 4 #[] W fun e W'=>e = .returned (.bool true)∧Below W.heap.size W W')) (M1:Hid (∀ W:World,Below w.heap.size w W→Calls Tryz.prog 5 #[.agg #[.bool s1,.slice a1 n1 c1,.slice a2 n2 c2]] W fun en W'=>(∃ A N C A' N' C',en = .returned (.tuple #[.agg #[.bool s,.slice A N C,.slice A' N' C'],.bool true])∧Mine W' W.heap.size A N C x∧Mine W' W.heap.size A' N' C' y)∧Below W.heap.size W W')) (M2:Hid (∀ W:World,Below w.heap.size w W→Calls Tryz.prog 5 #[.agg #[.bool s2,.slice a3 n3 c3,.slice a4 n4 c4]] W fun en W'=>(∃ A N C A' N' C',en = .returned (.tuple #[.agg #[.bool t,.slice A N C,.slice A' N' C'],.bool true])∧Mine W' W.heap.size A N C u∧Mine W' W.heap.size A' N' C' v)∧Below W.heap.size W W')) (T1:Hid (∀ (W:World) (a:Option Addr) (n c:Nat) (b:Option Addr) (k l:Nat),Num W a n x→Num W b k y→Calls Tryz.prog 6 #[.agg #[.bool s,.slice a n c,.slice b k l]] W fun e W'=>e = .returned (.tuple #[.string S,.int .i64 0])∧Below W.heap.size W W')) (T2:Hid (∀ (W:World) (a:Option Addr) (n c:Nat) (b:Option Addr) (k l:Nat),Num W a n u→Num W b k v→Calls Tryz.prog 6 #[.agg #[.bool t,.slice a n c,.slice b k l]] W fun e W'=>e = .returned (.tuple #[.string V9,.int .i64 0])∧Below W.heap.size W W')) (HP:Hid (∀ W:World,Calls Tryz.prog 7 #[.string S] W fun en W'=>(∃ A N C A' N' C',en = .returned (.tuple #[.agg #[.bool s,.slice A N C,.slice A' N' C'],.int .i64 0,.int .i64 0])∧Mine W' W.heap.size A N C x∧Mine W' W.heap.size A' N' C' y)∧Below W.heap.size W W')) (hrm:script Tryz.prog 0 (binOp .rem 3 (.int .i64 pw) (.int .i64 61)) [] = some (.int .i64 r,[])) (hbe:bits BinOp.or .u32 (bs:Int) 1 = (be:Int)) (hng:IntKind.i64.wrap (0 - r) = r2) (S1:Hid (∀ (W:World) (a:Option Addr) (n c:Nat) (b:Option Addr) (k l:Nat),Num W a n x→Num W b k y→Calls Tryz.prog 8 #[.agg #[.bool s,.slice a n c,.slice b k l],.int .u32 (be:Int),.int .i64 r] W fun en W'=>(∃ A N C A' N' C',en = .returned (.tuple #[.agg #[.bool gu,.slice A N C,.slice A' N' C'],.int .i64 0])∧Mine W' W.heap.size A N C xu∧Mine W' W.heap.size A' N' C' yu)∧Below W.heap.size W W')) (S2:Hid (∀ (W:World) (a:Option Addr) (n c:Nat) (b:Option Addr) (k l:Nat),Num W a n xu→Num W b k yu→Calls Tryz.prog 8 #[.agg #[.bool gu,.slice a n c,.slice b k l],.int .u32 (be:Int),.int .i64 r2] W fun en W'=>(∃ A N C A' N' C',en = .returned (.tuple #[.agg #[.bool s,.slice A N C,.slice A' N' C'],.int .i64 0])∧Mine W' W.heap.size A N C x∧Mine W' W.heap.size A' N' C' y)∧Below W.heap.size W W')) (S3:Hid (∀ (W:World) (a:Option Addr) (n c:Nat) (b:Option Addr) (k l:Nat),Num W a n 1→Num W b k 1→Calls Tryz.prog 8 #[.agg #[.bool false,.slice a n c,.slice b k l],.int .u32 (be:Int),.int .i64 r] W fun en W'=>(∃ A N C A' N' C',en = .returned (.tuple #[.agg #[.bool gm,.slice A N C,.slice A' N' C'],.int .i64 0])∧Mine W' W.heap.size A N C xm∧Mine W' W.heap.size A' N' C' ym)∧Below W.heap.size W W')) (HM:Hid (∀ (W:World) (a:Option Addr) (n c:Nat) (b:Option Addr) (k l:Nat) (a':Option Addr) (n' c':Nat) (b':Option Addr) (k' l':Nat),Num W a n x→Num W b k y→Num W a' n' xm→Num W b' k' ym→Calls Tryz.prog 10 #[.agg #[.bool s,.slice a n c,.slice b k l],.agg #[.bool gm,.slice a' n' c',.slice b' k' l']] W fun en W'=>(∃ A N C A' N' C',en = .returned (.tuple #[.agg #[.bool gu,.slice A N C,.slice A' N' C'],.int .i64 0])∧Mine W' W.heap.size A N C xu∧Mine W' W.heap.size A' N' C' yu)∧Below W.heap.size W W')) (E1:Hid (∀ (W:World) (a:Option Addr) (n c:Nat) (b:Option Addr) (k l:Nat) (a':Option Addr) (n' c':Nat) (b':Option Addr) (k' l':Nat),Num W a n x→Num W b k y→Num W a' n' x→Num W b' k' y→Calls Tryz.prog 11 #[.agg #[.bool s,.slice a n c,.slice b k l],.agg #[.bool s,.slice a' n' c',.slice b' k' l']] W fun e W'=>e = .returned (.bool true)∧Below W.heap.size W W')) (E2:Hid (∀ (W:World) (a:Option Addr) (n c:Nat) (b:Option Addr) (k l:Nat) (a':Option Addr) (n' c':Nat) (b':Option Addr) (k' l':Nat),Num W a n x→Num W b k y→Num W a' n' u→Num W b' k' v→Calls Tryz.prog 11 #[.agg #[.bool s,.slice a n c,.slice b k l],.agg #[.bool t,.slice a' n' c',.slice b' k' l']] W fun e W'=>e = .returned (.bool eb)∧Below W.heap.size W W')) (E3:Hid (∀ (W:World) (a:Option Addr) (n c:Nat) (b:Option Addr) (k l:Nat) (a':Option Addr) (n' c':Nat) (b':Option Addr) (k' l':Nat),Num W a n xu→Num W b k yu→Num W a' n' xu→Num W b' k' yu→Calls Tryz.prog 11 #[.agg #[.bool gu,.slice a n c,.slice b k l],.agg #[.bool gu,.slice a' n' c',.slice b' k' l']] W fun e W'=>e = .returned (.bool true)∧Below W.heap.size W W')) (htx:(S.toList == V9.toList) = eb) :
  Calls Tryz.prog 3 #[.agg #[.bool s1,.slice a1 n1 c1,.slice a2 n2 c2],.agg #[.bool s2,.slice a3 n3 c3,.slice a4 n4 c4],.int .u32 (bs:Int),.int .i64 pw] w fun en w'=>en = .returned (.bool true)∧Below w.heap.size w w':=by
 refine calls_sym Tryz.func3 rfl (by kernel_rfl) fun T hK=>?_
 replace hK:Kn T _ [(0,.agg #[.bool s1,.slice a1 n1 c1,.slice a2 n2 c2]),(1,.agg #[.bool s2,.slice a3 n3 c3,.slice a4 n4 c4]),(2,.int .u32 (bs:Int)),(3,.int .i64 pw)]:=hK
 have hS:=Fb.begin w
 have hG:GsAt [] w:=trivial
 refine wq hS hG hK (fun p1=>[.n 4 #[.bool s1,.slice a1 n1 c1,.slice a2 n2 c2] 24,.n 5 #[.bool s2,.slice a3 n3 c3,.slice a4 n4 c4] 24,.v 8 (.bool false)]) (fun p1=>[(2,.int .u32 (bs:Int)),(3,.int .i64 pw),(4,pT (p1 0).N 0),(5,pT (p1 1).N 0),(8,.bool false)]) (fun p1=>?_) (fun p1 W1 T hF hK=>?_)
 ·iterate 2 refine okn ?_
  refine okv ?_
  exact ok_nil
 replace hS:=SymF.fc hS hF [1000,1001] [⟨(p1 0).N,#[.bool s1,.slice a1 n1 c1,.slice a2 n2 c2],24,true⟩,⟨(p1 1).N,#[.bool s2,.slice a3 n3 c3,.slice a4 n4 c4],24,true⟩]
 replace hG:=hF.gx
 clear hF
 refine wq hS hG hK (fun p2=>[.c (some 30) (cV (.bool true)),.v 9 (.bool true)]) (fun p2=>[(2,.int .u32 (bs:Int)),(3,.int .i64 pw),(4,pT (p1 0).N 0),(5,pT (p1 1).N 0),(8,.bool false),(9,.bool true)]) (fun p2=>?_) (fun p2 W2 T hF hK=>?_)
 ·refine okc (fun W cx=>as_v (unhide HA _)) ?_
  refine okv ?_
  exact ok_nil
 obtain ⟨hS,hG⟩:=SymF.fg hS hF
 clear hF
 refine wq hS hG hK (fun p3=>[.l 32 (.agg #[.bool s1,.slice a1 n1 c1,.slice a2 n2 c2]) 0 0,.c (some 33) (cH W2.heap.size x y fun x9 y9=>.tuple #[.agg #[.bool s,x9,y9],.bool true]),.v 31 (.tuple #[.agg #[.bool s,.slice (p3 1).A (p3 1).N (p3 1).C,.slice (p3 1).A' (p3 1).N' (p3 1).C'],.bool true]),.v 34 (.agg #[.bool s,.slice (p3 1).A (p3 1).N (p3 1).C,.slice (p3 1).A' (p3 1).N' (p3 1).C']),.v 35 (.bool true),.n 10 #[.bool false,.slice none 0 0,.slice none 0 0] 30,.p 1005 0 [.bool s,.slice (p3 1).A (p3 1).N (p3 1).C,.slice (p3 1).A' (p3 1).N' (p3 1).C'],.v 11 (.bool true)]) (fun p3=>[(2,.int .u32 (bs:Int)),(3,.int .i64 pw),(5,pT (p1 1).N 0),(8,.bool false),(9,.bool true),(10,pT (p3 5).N 0),(11,.bool true)]) (fun p3=>?_) (fun p3 W3 T hF hK=>?_)
 ·refine okl ?_
  refine okc (fun W cx=>as_h cx.hb (unhide M1 _ cx.fr)) ?_
  iterate 3 refine okv ?_
  refine okn ?_
  refine okp ?_
  refine okv ?_
  exact ok_nil
 replace hS:=SymF.fc hS hF [1,1005] [⟨(p1 1).N,#[.bool s2,.slice a3 n3 c3,.slice a4 n4 c4],24,true⟩,⟨(p3 5).N,#[.bool s,.slice (p3 1).A (p3 1).N (p3 1).C,.slice (p3 1).A' (p3 1).N' (p3 1).C'],30,true⟩]
 replace hG:GsAt (gM W2.heap.size (p3 1).A (p3 1).N (p3 1).C x :: gM W2.heap.size (p3 1).A' (p3 1).N' (p3 1).C' y :: _) W3:=⟨And.left (hF.fx 1),And.right (hF.fx 1),hF.gx⟩
 clear hF
 refine wq hS hG hK (fun p4=>[.l 37 (.agg #[.bool s2,.slice a3 n3 c3,.slice a4 n4 c4]) 0 0,.c (some 38) (cH W3.heap.size u v fun x9 y9=>.tuple #[.agg #[.bool t,x9,y9],.bool true]),.v 36 (.tuple #[.agg #[.bool t,.slice (p4 1).A (p4 1).N (p4 1).C,.slice (p4 1).A' (p4 1).N' (p4 1).C'],.bool true]),.v 39 (.agg #[.bool t,.slice (p4 1).A (p4 1).N (p4 1).C,.slice (p4 1).A' (p4 1).N' (p4 1).C']),.v 40 (.bool true),.n 12 #[.bool false,.slice none 0 0,.slice none 0 0] 30,.p 1005 0 [.bool t,.slice (p4 1).A (p4 1).N (p4 1).C,.slice (p4 1).A' (p4 1).N' (p4 1).C'],.v 13 (.bool true)]) (fun p4=>[(2,.int .u32 (bs:Int)),(3,.int .i64 pw),(8,.bool false),(9,.bool true),(10,pT (p3 5).N 0),(11,.bool true),(12,pT (p4 5).N 0),(13,.bool true)]) (fun p4=>?_) (fun p4 W4 T hF hK=>?_)
 ·refine okl ?_
  refine okc (fun W cx=>as_h cx.hb (unhide M2 _ cx.fr)) ?_
  iterate 3 refine okv ?_
  refine okn ?_
  refine okp ?_
  refine okv ?_
  exact ok_nil
 replace hS:=SymF.fc hS hF [1,1005] [⟨(p3 5).N,#[.bool s,.slice (p3 1).A (p3 1).N (p3 1).C,.slice (p3 1).A' (p3 1).N' (p3 1).C'],30,true⟩,⟨(p4 5).N,#[.bool t,.slice (p4 1).A (p4 1).N (p4 1).C,.slice (p4 1).A' (p4 1).N' (p4 1).C'],30,true⟩]
 replace hG:GsAt (gM W3.heap.size (p4 1).A (p4 1).N (p4 1).C u :: gM W3.heap.size (p4 1).A' (p4 1).N' (p4 1).C' v :: _) W4:=⟨And.left (hF.fx 1),And.right (hF.fx 1),hF.gx⟩
 clear hF
 refine wp_seq ?_
 refine wq hS hG hK (fun p5=>[.v 41 (.bool true),.v 42 (.bool false),.v 43 (.bool false),.v 44 (.bool true),.v 45 (.bool false),.v 46 (.bool false),.v 47 (.bool false),.v 48 (.bool true),.v 49 (.bool false),.v 50 (.bool false)]) (fun p5=>[(2,.int .u32 (bs:Int)),(3,.int .i64 pw),(8,.bool false),(10,pT (p3 5).N 0),(12,pT (p4 5).N 0),(50,.bool false)]) (fun p5=>?_) (fun p5 W5 T hF hK=>?_)
 ·iterate 10 refine okv ?_
  exact ok_nil
 obtain ⟨hS,hG⟩:=SymF.fg hS hF
 clear hF
 refine wp_cond_false (hK.ew 50) (wp_skip (then_n ?_))
 refine wq hS hG hK (fun p6=>[.l 52 (.agg #[.bool s,.slice (p3 1).A (p3 1).N (p3 1).C,.slice (p3 1).A' (p3 1).N' (p3 1).C']) 0 0,.c (some 53) (cV (.tuple #[.string S,.int .i64 0])),.v 51 (.tuple #[.string S,.int .i64 0]),.v 54 (.string S),.v 55 (.int .i64 0),.v 14 (.string S),.v 15 (.int .i64 0)]) (fun p6=>[(2,.int .u32 (bs:Int)),(3,.int .i64 pw),(8,.bool false),(10,pT (p3 5).N 0),(12,pT (p4 5).N 0),(14,.string S),(15,.int .i64 0)]) (fun p6=>?_) (fun p6 W6 T hF hK=>?_)
 ·refine okl ?_
  refine okc (fun W cx=>as_v (unhide T1 _ _ _ (p3 1).C _ _ (p3 1).C' (Mine.num cx.G.2.2.1) (Mine.num cx.G.2.2.2.1))) ?_
  iterate 5 refine okv ?_
  exact ok_nil
 obtain ⟨hS,hG⟩:=SymF.fg hS hF
 clear hF
 refine wq hS hG hK (fun p7=>[.l 57 (.agg #[.bool t,.slice (p4 1).A (p4 1).N (p4 1).C,.slice (p4 1).A' (p4 1).N' (p4 1).C']) 1 0,.c (some 58) (cV (.tuple #[.string V9,.int .i64 0])),.v 56 (.tuple #[.string V9,.int .i64 0]),.v 59 (.string V9),.v 60 (.int .i64 0),.v 16 (.string V9),.v 17 (.int .i64 0)]) (fun p7=>[(2,.int .u32 (bs:Int)),(3,.int .i64 pw),(8,.bool false),(10,pT (p3 5).N 0),(12,pT (p4 5).N 0),(14,.string S),(15,.int .i64 0),(16,.string V9),(17,.int .i64 0)]) (fun p7=>?_) (fun p7 W7 T hF hK=>?_)
 ·refine okl ?_
  refine okc (fun W cx=>as_v (unhide T2 _ _ _ (p4 1).C _ _ (p4 1).C' (Mine.num cx.G.1) (Mine.num cx.G.2.1))) ?_
  iterate 5 refine okv ?_
  exact ok_nil
 obtain ⟨hS,hG⟩:=SymF.fg hS hF
 clear hF
 refine wq hS hG hK (fun p8=>[.v 62 (.string S),.c (some 63) (cH W7.heap.size x y fun x9 y9=>.tuple #[.agg #[.bool s,x9,y9],.int .i64 0,.int .i64 0]),.v 61 (.tuple #[.agg #[.bool s,.slice (p8 1).A (p8 1).N (p8 1).C,.slice (p8 1).A' (p8 1).N' (p8 1).C'],.int .i64 0,.int .i64 0]),.v 64 (.agg #[.bool s,.slice (p8 1).A (p8 1).N (p8 1).C,.slice (p8 1).A' (p8 1).N' (p8 1).C']),.v 65 (.int .i64 0),.v 66 (.int .i64 0),.n 18 #[.bool false,.slice none 0 0,.slice none 0 0] 30,.p 1006 0 [.bool s,.slice (p8 1).A (p8 1).N (p8 1).C,.slice (p8 1).A' (p8 1).N' (p8 1).C'],.v 19 (.int .i64 0),.v 20 (.int .i64 0)]) (fun p8=>[(2,.int .u32 (bs:Int)),(3,.int .i64 pw),(8,.bool false),(10,pT (p3 5).N 0),(12,pT (p4 5).N 0),(14,.string S),(15,.int .i64 0),(16,.string V9),(17,.int .i64 0),(18,pT (p8 6).N 0),(19,.int .i64 0),(20,.int .i64 0)]) (fun p8=>?_) (fun p8 W8 T hF hK=>?_)
 ·refine okv ?_
  refine okc (fun W cx=>as_h cx.hb (unhide HP _)) ?_
  iterate 4 refine okv ?_
  refine okn ?_
  refine okp ?_
  iterate 2 refine okv ?_
  exact ok_nil
 replace hS:=SymF.fc hS hF [0,1,1006] [⟨(p3 5).N,#[.bool s,.slice (p3 1).A (p3 1).N (p3 1).C,.slice (p3 1).A' (p3 1).N' (p3 1).C'],30,true⟩,⟨(p4 5).N,#[.bool t,.slice (p4 1).A (p4 1).N (p4 1).C,.slice (p4 1).A' (p4 1).N' (p4 1).C'],30,true⟩,⟨(p8 6).N,#[.bool s,.slice (p8 1).A (p8 1).N (p8 1).C,.slice (p8 1).A' (p8 1).N' (p8 1).C'],30,true⟩]
 replace hG:GsAt (gM W7.heap.size (p8 1).A (p8 1).N (p8 1).C x :: gM W7.heap.size (p8 1).A' (p8 1).N' (p8 1).C' y :: _) W8:=⟨And.left (hF.fx 1),And.right (hF.fx 1),hF.gx⟩
 clear hF
 refine wq hS hG hK (fun p9=>[.v 67 (.int .i64 pw),.v 68 (.int .i64 r),.v 21 (.int .i64 r)]) (fun p9=>[(2,.int .u32 (bs:Int)),(8,.bool false),(10,pT (p3 5).N 0),(12,pT (p4 5).N 0),(14,.string S),(15,.int .i64 0),(16,.string V9),(17,.int .i64 0),(18,pT (p8 6).N 0),(19,.int .i64 0),(20,.int .i64 0),(21,.int .i64 r)]) (fun p9=>?_) (fun p9 W9 T hF hK=>?_)
 ·refine okv ?_
  refine ok_vr (hrm) (by kernel_rfl) ?_
  refine okv ?_
  exact ok_nil
 obtain ⟨hS,hG⟩:=SymF.fg hS hF
 clear hF
 refine wq hS hG hK (fun p10=>[.l 70 (.agg #[.bool s,.slice (p3 1).A (p3 1).N (p3 1).C,.slice (p3 1).A' (p3 1).N' (p3 1).C']) 0 0,.v 71 (.int .u32 (bs:Int)),.v 72 (.int .u32 (be:Int)),.v 73 (.int .i64 r),.c (some 74) (cH W9.heap.size xu yu fun x9 y9=>.tuple #[.agg #[.bool gu,x9,y9],.int .i64 0]),.v 69 (.tuple #[.agg #[.bool gu,.slice (p10 4).A (p10 4).N (p10 4).C,.slice (p10 4).A' (p10 4).N' (p10 4).C'],.int .i64 0]),.v 75 (.agg #[.bool gu,.slice (p10 4).A (p10 4).N (p10 4).C,.slice (p10 4).A' (p10 4).N' (p10 4).C']),.v 76 (.int .i64 0),.n 22 #[.bool false,.slice none 0 0,.slice none 0 0] 30,.p 1008 0 [.bool gu,.slice (p10 4).A (p10 4).N (p10 4).C,.slice (p10 4).A' (p10 4).N' (p10 4).C'],.v 23 (.int .i64 0)]) (fun p10=>[(2,.int .u32 (bs:Int)),(8,.bool false),(10,pT (p3 5).N 0),(12,pT (p4 5).N 0),(14,.string S),(15,.int .i64 0),(16,.string V9),(17,.int .i64 0),(18,pT (p8 6).N 0),(19,.int .i64 0),(20,.int .i64 0),(21,.int .i64 r),(22,pT (p10 8).N 0),(23,.int .i64 0)]) (fun p10=>?_) (fun p10 W10 T hF hK=>?_)
 ·refine okl ?_
  refine okv ?_
  refine okvi (hbe) ?_
  refine okv ?_
  refine okc (fun W cx=>as_h cx.hb (unhide S1 _ _ _ (p3 1).C _ _ (p3 1).C' (Mine.num cx.G.2.2.2.2.1) (Mine.num cx.G.2.2.2.2.2.1))) ?_
  iterate 3 refine okv ?_
  refine okn ?_
  refine okp ?_
  refine okv ?_
  exact ok_nil
 replace hS:=SymF.fc hS hF [0,1,2,1008] [⟨(p3 5).N,#[.bool s,.slice (p3 1).A (p3 1).N (p3 1).C,.slice (p3 1).A' (p3 1).N' (p3 1).C'],30,true⟩,⟨(p4 5).N,#[.bool t,.slice (p4 1).A (p4 1).N (p4 1).C,.slice (p4 1).A' (p4 1).N' (p4 1).C'],30,true⟩,⟨(p8 6).N,#[.bool s,.slice (p8 1).A (p8 1).N (p8 1).C,.slice (p8 1).A' (p8 1).N' (p8 1).C'],30,true⟩,⟨(p10 8).N,#[.bool gu,.slice (p10 4).A (p10 4).N (p10 4).C,.slice (p10 4).A' (p10 4).N' (p10 4).C'],30,true⟩]
 replace hG:GsAt (gM W9.heap.size (p10 4).A (p10 4).N (p10 4).C xu :: gM W9.heap.size (p10 4).A' (p10 4).N' (p10 4).C' yu :: _) W10:=⟨And.left (hF.fx 4),And.right (hF.fx 4),hF.gx⟩
 clear hF
 refine wq hS hG hK (fun p11=>[.l 78 (.agg #[.bool gu,.slice (p10 4).A (p10 4).N (p10 4).C,.slice (p10 4).A' (p10 4).N' (p10 4).C']) 3 0,.v 79 (.int .u32 (bs:Int)),.v 80 (.int .u32 (be:Int)),.v 81 (.int .i64 r),.v 82 (.int .i64 r2),.c (some 83) (cH W10.heap.size x y fun x9 y9=>.tuple #[.agg #[.bool s,x9,y9],.int .i64 0]),.v 77 (.tuple #[.agg #[.bool s,.slice (p11 5).A (p11 5).N (p11 5).C,.slice (p11 5).A' (p11 5).N' (p11 5).C'],.int .i64 0]),.v 84 (.agg #[.bool s,.slice (p11 5).A (p11 5).N (p11 5).C,.slice (p11 5).A' (p11 5).N' (p11 5).C']),.v 85 (.int .i64 0),.n 24 #[.bool false,.slice none 0 0,.slice none 0 0] 30,.p 1009 0 [.bool s,.slice (p11 5).A (p11 5).N (p11 5).C,.slice (p11 5).A' (p11 5).N' (p11 5).C'],.v 25 (.int .i64 0)]) (fun p11=>[(2,.int .u32 (bs:Int)),(8,.bool false),(10,pT (p3 5).N 0),(12,pT (p4 5).N 0),(14,.string S),(15,.int .i64 0),(16,.string V9),(17,.int .i64 0),(18,pT (p8 6).N 0),(19,.int .i64 0),(20,.int .i64 0),(21,.int .i64 r),(22,pT (p10 8).N 0),(23,.int .i64 0),(24,pT (p11 9).N 0),(25,.int .i64 0)]) (fun p11=>?_) (fun p11 W11 T hF hK=>?_)
 ·refine okl ?_
  refine okv ?_
  refine okvi (hbe) ?_
  refine okv ?_
  refine okvi (hng) ?_
  refine okc (fun W cx=>as_h cx.hb (unhide S2 _ _ _ (p10 4).C _ _ (p10 4).C' (Mine.num cx.G.1) (Mine.num cx.G.2.1))) ?_
  iterate 3 refine okv ?_
  refine okn ?_
  refine okp ?_
  refine okv ?_
  exact ok_nil
 replace hS:=SymF.fc hS hF [0,1,2,3,1009] [⟨(p3 5).N,#[.bool s,.slice (p3 1).A (p3 1).N (p3 1).C,.slice (p3 1).A' (p3 1).N' (p3 1).C'],30,true⟩,⟨(p4 5).N,#[.bool t,.slice (p4 1).A (p4 1).N (p4 1).C,.slice (p4 1).A' (p4 1).N' (p4 1).C'],30,true⟩,⟨(p8 6).N,#[.bool s,.slice (p8 1).A (p8 1).N (p8 1).C,.slice (p8 1).A' (p8 1).N' (p8 1).C'],30,true⟩,⟨(p10 8).N,#[.bool gu,.slice (p10 4).A (p10 4).N (p10 4).C,.slice (p10 4).A' (p10 4).N' (p10 4).C'],30,true⟩,⟨(p11 9).N,#[.bool s,.slice (p11 5).A (p11 5).N (p11 5).C,.slice (p11 5).A' (p11 5).N' (p11 5).C'],30,true⟩]
 replace hG:GsAt (gM W10.heap.size (p11 5).A (p11 5).N (p11 5).C x :: gM W10.heap.size (p11 5).A' (p11 5).N' (p11 5).C' y :: _) W11:=⟨And.left (hF.fx 5),And.right (hF.fx 5),hF.gx⟩
 clear hF
 refine wq hS hG hK (fun p12=>[.c (some 87) (cH W11.heap.size 1 1 fun x9 y9=>.agg #[.bool false,x9,y9]),.v 88 (.int .u32 (bs:Int)),.v 89 (.int .u32 (be:Int)),.v 90 (.int .i64 r),.c (some 91) (cH W11.heap.size xm ym fun x9 y9=>.tuple #[.agg #[.bool gm,x9,y9],.int .i64 0]),.v 86 (.tuple #[.agg #[.bool gm,.slice (p12 4).A (p12 4).N (p12 4).C,.slice (p12 4).A' (p12 4).N' (p12 4).C'],.int .i64 0]),.v 92 (.agg #[.bool gm,.slice (p12 4).A (p12 4).N (p12 4).C,.slice (p12 4).A' (p12 4).N' (p12 4).C']),.v 93 (.int .i64 0),.n 26 #[.bool false,.slice none 0 0,.slice none 0 0] 30,.p 1008 0 [.bool gm,.slice (p12 4).A (p12 4).N (p12 4).C,.slice (p12 4).A' (p12 4).N' (p12 4).C'],.v 27 (.int .i64 0)]) (fun p12=>[(8,.bool false),(10,pT (p3 5).N 0),(12,pT (p4 5).N 0),(14,.string S),(15,.int .i64 0),(16,.string V9),(17,.int .i64 0),(18,pT (p8 6).N 0),(19,.int .i64 0),(20,.int .i64 0),(22,pT (p10 8).N 0),(23,.int .i64 0),(24,pT (p11 9).N 0),(25,.int .i64 0),(26,pT (p12 8).N 0),(27,.int .i64 0)]) (fun p12=>?_) (fun p12 W12 T hF hK=>?_)
 ·refine okc (fun W cx=>as_h cx.hb (zwhole_1 _)) ?_
  refine okv ?_
  refine okvi (hbe) ?_
  refine okv ?_
  refine okc (fun W cx=>as_h cx.hb (unhide S3 _ _ _ (p12 0).C _ _ (p12 0).C' (Mine.num (And.left (cx.F 0 (by kernel_rfl)))) (Mine.num (And.right (cx.F 0 (by kernel_rfl)))))) ?_
  iterate 3 refine okv ?_
  refine okn ?_
  refine okp ?_
  refine okv ?_
  exact ok_nil
 replace hS:=SymF.fc hS hF [0,1,2,3,4,1008] [⟨(p3 5).N,#[.bool s,.slice (p3 1).A (p3 1).N (p3 1).C,.slice (p3 1).A' (p3 1).N' (p3 1).C'],30,true⟩,⟨(p4 5).N,#[.bool t,.slice (p4 1).A (p4 1).N (p4 1).C,.slice (p4 1).A' (p4 1).N' (p4 1).C'],30,true⟩,⟨(p8 6).N,#[.bool s,.slice (p8 1).A (p8 1).N (p8 1).C,.slice (p8 1).A' (p8 1).N' (p8 1).C'],30,true⟩,⟨(p10 8).N,#[.bool gu,.slice (p10 4).A (p10 4).N (p10 4).C,.slice (p10 4).A' (p10 4).N' (p10 4).C'],30,true⟩,⟨(p11 9).N,#[.bool s,.slice (p11 5).A (p11 5).N (p11 5).C,.slice (p11 5).A' (p11 5).N' (p11 5).C'],30,true⟩,⟨(p12 8).N,#[.bool gm,.slice (p12 4).A (p12 4).N (p12 4).C,.slice (p12 4).A' (p12 4).N' (p12 4).C'],30,true⟩]
 replace hG:GsAt (gM W11.heap.size (p12 0).A (p12 0).N (p12 0).C 1 :: gM W11.heap.size (p12 0).A' (p12 0).N' (p12 0).C' 1 :: gM W11.heap.size (p12 4).A (p12 4).N (p12 4).C xm :: gM W11.heap.size (p12 4).A' (p12 4).N' (p12 4).C' ym :: _) W12:=⟨And.left (hF.fx 0),And.right (hF.fx 0),And.left (hF.fx 4),And.right (hF.fx 4),hF.gx⟩
 clear hF
 refine wq hS hG hK (fun p13=>[.l 95 (.agg #[.bool s,.slice (p3 1).A (p3 1).N (p3 1).C,.slice (p3 1).A' (p3 1).N' (p3 1).C']) 0 0,.l 96 (.agg #[.bool gm,.slice (p12 4).A (p12 4).N (p12 4).C,.slice (p12 4).A' (p12 4).N' (p12 4).C']) 5 0,.c (some 97) (cH W12.heap.size xu yu fun x9 y9=>.tuple #[.agg #[.bool gu,x9,y9],.int .i64 0]),.v 94 (.tuple #[.agg #[.bool gu,.slice (p13 2).A (p13 2).N (p13 2).C,.slice (p13 2).A' (p13 2).N' (p13 2).C'],.int .i64 0]),.v 98 (.agg #[.bool gu,.slice (p13 2).A (p13 2).N (p13 2).C,.slice (p13 2).A' (p13 2).N' (p13 2).C']),.v 99 (.int .i64 0),.n 28 #[.bool false,.slice none 0 0,.slice none 0 0] 30,.p 1006 0 [.bool gu,.slice (p13 2).A (p13 2).N (p13 2).C,.slice (p13 2).A' (p13 2).N' (p13 2).C'],.v 29 (.int .i64 0)]) (fun p13=>[(8,.bool false),(10,pT (p3 5).N 0),(12,pT (p4 5).N 0),(14,.string S),(15,.int .i64 0),(16,.string V9),(17,.int .i64 0),(18,pT (p8 6).N 0),(19,.int .i64 0),(20,.int .i64 0),(22,pT (p10 8).N 0),(23,.int .i64 0),(24,pT (p11 9).N 0),(25,.int .i64 0),(27,.int .i64 0),(28,pT (p13 6).N 0),(29,.int .i64 0)]) (fun p13=>?_) (fun p13 W13 T hF hK=>?_)
 ·iterate 2 refine okl ?_
  refine okc (fun W cx=>as_h cx.hb (unhide HM _ _ _ (p3 1).C _ _ (p3 1).C' _ _ (p12 4).C _ _ (p12 4).C' (Mine.num cx.G.2.2.2.2.2.2.2.2.2.2.2.2.1) (Mine.num cx.G.2.2.2.2.2.2.2.2.2.2.2.2.2.1) (Mine.num cx.G.2.2.1) (Mine.num cx.G.2.2.2.1))) ?_
  iterate 3 refine okv ?_
  refine okn ?_
  refine okp ?_
  refine okv ?_
  exact ok_nil
 replace hS:=SymF.fc hS hF [0,1,2,3,4,1006] [⟨(p3 5).N,#[.bool s,.slice (p3 1).A (p3 1).N (p3 1).C,.slice (p3 1).A' (p3 1).N' (p3 1).C'],30,true⟩,⟨(p4 5).N,#[.bool t,.slice (p4 1).A (p4 1).N (p4 1).C,.slice (p4 1).A' (p4 1).N' (p4 1).C'],30,true⟩,⟨(p8 6).N,#[.bool s,.slice (p8 1).A (p8 1).N (p8 1).C,.slice (p8 1).A' (p8 1).N' (p8 1).C'],30,true⟩,⟨(p10 8).N,#[.bool gu,.slice (p10 4).A (p10 4).N (p10 4).C,.slice (p10 4).A' (p10 4).N' (p10 4).C'],30,true⟩,⟨(p11 9).N,#[.bool s,.slice (p11 5).A (p11 5).N (p11 5).C,.slice (p11 5).A' (p11 5).N' (p11 5).C'],30,true⟩,⟨(p13 6).N,#[.bool gu,.slice (p13 2).A (p13 2).N (p13 2).C,.slice (p13 2).A' (p13 2).N' (p13 2).C'],30,true⟩]
 replace hG:GsAt (gM W12.heap.size (p13 2).A (p13 2).N (p13 2).C xu :: gM W12.heap.size (p13 2).A' (p13 2).N' (p13 2).C' yu :: _) W13:=⟨And.left (hF.fx 2),And.right (hF.fx 2),hF.gx⟩
 clear hF
 refine wp_seq ?_
 refine wq hS hG hK (fun p14=>[.v 100 (.int .i64 0),.v 101 (.bool false),.v 102 (.bool false),.v 103 (.int .i64 0),.v 104 (.bool false),.v 105 (.bool false),.v 106 (.bool false),.v 107 (.int .i64 0),.v 108 (.bool false),.v 109 (.bool false),.v 110 (.bool false),.v 111 (.int .i64 0),.v 112 (.bool false),.v 113 (.bool false),.v 114 (.bool false),.v 115 (.int .i64 0),.v 116 (.bool false),.v 117 (.bool false),.v 118 (.bool false),.v 119 (.int .i64 0),.v 120 (.bool false),.v 121 (.bool false),.v 122 (.bool false),.v 123 (.int .i64 0),.v 124 (.bool false),.v 125 (.bool false),.v 126 (.bool false),.v 127 (.int .i64 0),.v 128 (.bool false),.v 129 (.bool false)]) (fun p14=>[(8,.bool false),(10,pT (p3 5).N 0),(12,pT (p4 5).N 0),(14,.string S),(16,.string V9),(18,pT (p8 6).N 0),(22,pT (p10 8).N 0),(24,pT (p11 9).N 0),(28,pT (p13 6).N 0),(129,.bool false)]) (fun p14=>?_) (fun p14 W14 T hF hK=>?_)
 ·iterate 30 refine okv ?_
  exact ok_nil
 obtain ⟨hS,hG⟩:=SymF.fg hS hF
 clear hF
 refine wp_cond_false (hK.ew 129) (wp_skip (then_n ?_))
 refine wq hS hG hK (fun p15=>[.l 130 (.agg #[.bool s,.slice (p8 1).A (p8 1).N (p8 1).C,.slice (p8 1).A' (p8 1).N' (p8 1).C']) 2 0,.l 131 (.agg #[.bool s,.slice (p3 1).A (p3 1).N (p3 1).C,.slice (p3 1).A' (p3 1).N' (p3 1).C']) 0 0,.c (some 132) (cV (.bool true)),.v 133 (.bool true),.v 134 (.string S),.v 135 (.string V9),.v 136 (.bool eb),.l 137 (.agg #[.bool s,.slice (p3 1).A (p3 1).N (p3 1).C,.slice (p3 1).A' (p3 1).N' (p3 1).C']) 0 0,.l 138 (.agg #[.bool t,.slice (p4 1).A (p4 1).N (p4 1).C,.slice (p4 1).A' (p4 1).N' (p4 1).C']) 1 0,.c (some 139) (cV (.bool eb)),.v 140 (.bool true),.v 141 (.bool true),.v 142 (.bool true),.l 143 (.agg #[.bool s,.slice (p11 5).A (p11 5).N (p11 5).C,.slice (p11 5).A' (p11 5).N' (p11 5).C']) 4 0,.l 144 (.agg #[.bool s,.slice (p3 1).A (p3 1).N (p3 1).C,.slice (p3 1).A' (p3 1).N' (p3 1).C']) 0 0,.c (some 145) (cV (.bool true)),.v 146 (.bool true),.v 147 (.bool true),.l 148 (.agg #[.bool gu,.slice (p13 2).A (p13 2).N (p13 2).C,.slice (p13 2).A' (p13 2).N' (p13 2).C']) 5 0,.l 149 (.agg #[.bool gu,.slice (p10 4).A (p10 4).N (p10 4).C,.slice (p10 4).A' (p10 4).N' (p10 4).C']) 3 0,.c (some 150) (cV (.bool true)),.v 151 (.bool true),.v 8 (.bool true)]) (fun p15=>[(8,.bool true)]) (fun p15=>?_) (fun p15 W15 T hF hK=>?_)
 ·iterate 2 refine okl ?_
  refine okc (fun W cx=>as_v (unhide E1 _ _ _ (p8 1).C _ _ (p8 1).C' _ _ (p3 1).C _ _ (p3 1).C' (Mine.num cx.G.2.2.2.2.2.2.2.2.2.2.1) (Mine.num cx.G.2.2.2.2.2.2.2.2.2.2.2.1) (Mine.num cx.G.2.2.2.2.2.2.2.2.2.2.2.2.2.2.1) (Mine.num cx.G.2.2.2.2.2.2.2.2.2.2.2.2.2.2.2.1))) ?_
  iterate 3 refine okv ?_
  refine okvb (htx) ?_
  iterate 2 refine okl ?_
  refine okc (fun W cx=>as_v (unhide E2 _ _ _ (p3 1).C _ _ (p3 1).C' _ _ (p4 1).C _ _ (p4 1).C' (Mine.num cx.G.2.2.2.2.2.2.2.2.2.2.2.2.2.2.1) (Mine.num cx.G.2.2.2.2.2.2.2.2.2.2.2.2.2.2.2.1) (Mine.num cx.G.2.2.2.2.2.2.2.2.2.2.2.2.1) (Mine.num cx.G.2.2.2.2.2.2.2.2.2.2.2.2.2.1))) ?_
  refine okvb (beq_self_eq_true eb) ?_
  iterate 2 refine okv ?_
  iterate 2 refine okl ?_
  refine okc (fun W cx=>as_v (unhide E1 _ _ _ (p11 5).C _ _ (p11 5).C' _ _ (p3 1).C _ _ (p3 1).C' (Mine.num cx.G.2.2.2.2.2.2.1) (Mine.num cx.G.2.2.2.2.2.2.2.1) (Mine.num cx.G.2.2.2.2.2.2.2.2.2.2.2.2.2.2.1) (Mine.num cx.G.2.2.2.2.2.2.2.2.2.2.2.2.2.2.2.1))) ?_
  iterate 2 refine okv ?_
  iterate 2 refine okl ?_
  refine okc (fun W cx=>as_v (unhide E3 _ _ _ (p13 2).C _ _ (p13 2).C' _ _ (p10 4).C _ _ (p10 4).C' (Mine.num cx.G.1) (Mine.num cx.G.2.1) (Mine.num cx.G.2.2.2.2.2.2.2.2.1) (Mine.num cx.G.2.2.2.2.2.2.2.2.2.1))) ?_
  iterate 2 refine okv ?_
  exact ok_nil
 obtain ⟨hS,hG⟩:=SymF.fg hS hF
 clear hF
 refine wp_ret ?_
 exact sym_end hS hK (.bool true) [] [] (by kernel_rfl) (by kernel_rfl) ⟨rfl,hS.fr⟩
end Go.Proofs.YtcfccblpcngeaaaGreat
