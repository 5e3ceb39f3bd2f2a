/- Of what DecExactRow stands on: RzApa RzSum RzSub RzAny RzRat. -/
import Derived.Test.YtpmmapoabbpaiaaGreatPbl
import Derived.Test.YtpmmapoabbpaiaaGreatPaw
import Derived.Test.YtpmmapoabbpaiaaGreatPav
import Derived.Test.YtpmmapoabbpaiaaGreatPax
import Derived.Test.YtpmmapoabbpaiaaGreatPam
import Derived.Test.YtpmmapoabbpaiaaGreatPay
namespace Go.Proofs.YtpmmapoabbpaiaaGreat
open Go.RowKit
set_option maxHeartbeats 4000000
set_option maxRecDepth 20000
def WBel (p wa wb pa pb:Nat) (r:Bool):Prop:=∀ (W:World) (a1:Option Addr) (n1 c1:Nat) (a2:Option Addr) (n2 c2:Nat) (a3:Option Addr) (n3 c3:Nat) (a4:Option Addr) (n4 c4:Nat) (a5:Option Addr) (n5 c5:Nat) (b:Bool),Rz W p 0→Num W a1 n1 wa→Num W a2 n2 wb→Num W a3 n3 pa→Num W a4 n4 pb→Calls Tryz.prog 115 #[.agg #[.slice a1 n1 c1,.slice a2 n2 c2,.slice a3 n3 c3,.slice a4 n4 c4,.slice a5 n5 c5,.bool b],.pointer (some ⟨p,0,none⟩)] W fun en W'=>en = .returned (.bool r)∧Below W.heap.size W W'
theorem Num.znil (w:World):Num w none 0 0:=⟨[],rfl,Or.inl rfl,Pl.wf_nil,Pl.norm_nil,rfl,by omega⟩
theorem zbel_ne (w:World) (p:Nat) (a1 a2 a3 a4 a5:Option Addr) (n1 n2 n3 n4 n5 c1 c2 c3 c4 c5 wa wb pa pb:Nat) (b:Bool) (r1:Int) (g:Bool) (hR:Rz w p 0) (h1:Num w a1 n1 wa) (h2:Num w a2 n2 wb) (h3:Num w a3 n3 pa) (h4:Num w a4 n4 pb) (H1:Hid (WCmp p wa wb r1)) (hr:r1≠0) (hg:decide (r1 < 0) = g)  :
  Calls Tryz.prog 115 #[.agg #[.slice a1 n1 c1,.slice a2 n2 c2,.slice a3 n3 c3,.slice a4 n4 c4,.slice a5 n5 c5,.bool b],.pointer (some ⟨p,0,none⟩)] w fun en w'=>en = .returned (.bool g)∧Below w.heap.size w w':=by
 obtain ⟨cs9,t9_,hp,hp0⟩:=hR
 refine calls_sym Tryz.func115 rfl (by kernel_rfl) fun T hK=>?_
 replace hK:Kn T _ [(0,.agg #[.slice a1 n1 c1,.slice a2 n2 c2,.slice a3 n3 c3,.slice a4 n4 c4,.slice a5 n5 c5,.bool b]),(1,.pointer (some ⟨p,0,none⟩))]:=hK
 have hS:=Fb.other hp
 have hG:GsAt [gN a1 n1 wa,gN a2 n2 wb,gN a3 n3 pa,gN a4 n4 pb] w:=⟨h1,h2,h3,h4,trivial⟩
 refine wq hS hG hK (fun p1=>[.n 2 #[.slice a1 n1 c1,.slice a2 n2 c2,.slice a3 n3 c3,.slice a4 n4 c4,.slice a5 n5 c5,.bool b] 147,.v 4 (.bool false)]) (fun p1=>[(1,.pointer (some ⟨p,0,none⟩)),(2,pT (p1 0).N 0),(4,.bool false)]) (fun p1=>?_) (fun p1 W1 T hF hK=>?_)
 ·refine okn ?_
  refine okv ?_
  exact ok_nil
 replace hS:=SymF.fc hS hF [0,1000] [⟨p,cs9,t9_,false⟩,⟨(p1 0).N,#[.slice a1 n1 c1,.slice a2 n2 c2,.slice a3 n3 c3,.slice a4 n4 c4,.slice a5 n5 c5,.bool b],147,true⟩]
 replace hG:=hF.gx
 clear hF
 refine wp_seq ?_
 refine wq hS hG hK (fun p2=>[.v 6 (.pointer (some ⟨p,0,none⟩)),.v 7 (pT (p1 0).N 0),.l 8 (.agg #[.slice a1 n1 c1]) 1 0,.v 9 (pT (p1 0).N 1),.l 10 (.agg #[.slice a2 n2 c2]) 1 1,.c (some 11) (cV (.int .i64 r1)),.v 5 (.int .i64 r1)]) (fun p2=>[(1,.pointer (some ⟨p,0,none⟩)),(2,pT (p1 0).N 0),(4,.bool false),(5,.int .i64 r1)]) (fun p2=>?_) (fun p2 W2 T hF hK=>?_)
 ·iterate 2 refine okv ?_
  refine okl ?_
  refine okv ?_
  refine okl ?_
  refine okc (fun W cx=>as_v (unhide H1 _ _ _ c1 _ _ c2 ⟨_,_,cx.B 0 _ rfl (by kernel_rfl) (by kernel_rfl),hp0⟩ (cx.G.1) (cx.G.2.1))) ?_
  refine okv ?_
  exact ok_nil
 obtain ⟨hS,hG⟩:=SymF.fg hS hF
 clear hF
 refine wq hS hG hK (fun p3=>[.v 12 (.int .i64 r1),.v 13 (.bool true)]) (fun p3=>[(1,.pointer (some ⟨p,0,none⟩)),(2,pT (p1 0).N 0),(4,.bool false),(5,.int .i64 r1),(13,.bool true)]) (fun p3=>?_) (fun p3 W3 T hF hK=>?_)
 ·refine okv ?_
  refine okvb (bne_iff_ne.2 (show r1≠0 by omega)) ?_
  exact ok_nil
 obtain ⟨hS,hG⟩:=SymF.fg hS hF
 clear hF
 refine wp_cond_true (hK.ew 13) ?_
 refine wq hS hG hK (fun p4=>[.v 14 (.int .i64 r1),.v 15 (.bool g),.v 4 (.bool g)]) (fun p4=>[(1,.pointer (some ⟨p,0,none⟩)),(2,pT (p1 0).N 0),(4,.bool g)]) (fun p4=>?_) (fun p4 W4 T hF hK=>?_)
 ·refine okv ?_
  refine okvb (hg) ?_
  refine okv ?_
  exact ok_nil
 obtain ⟨hS,hG⟩:=SymF.fg hS hF
 clear hF
 refine wp_ret ?_
 refine then_r ?_
 exact sym_end hS hK (.bool g) [] [] (by kernel_rfl) (by kernel_rfl) ⟨rfl,hS.fr⟩
theorem zbel_eq (w:World) (p:Nat) (a1 a2 a3 a4 a5:Option Addr) (n1 n2 n3 n4 n5 c1 c2 c3 c4 c5 wa wb pa pb:Nat) (b:Bool) (r1 r2:Int) (g:Bool) (hR:Rz w p 0) (h1:Num w a1 n1 wa) (h2:Num w a2 n2 wb) (h3:Num w a3 n3 pa) (h4:Num w a4 n4 pb) (H1:Hid (WCmp p wa wb r1)) (hr:r1 = 0) (H2:Hid (WCmp p pa pb r2)) (hg:decide (r2 < 0) = g)  :
  Calls Tryz.prog 115 #[.agg #[.slice a1 n1 c1,.slice a2 n2 c2,.slice a3 n3 c3,.slice a4 n4 c4,.slice a5 n5 c5,.bool b],.pointer (some ⟨p,0,none⟩)] w fun en w'=>en = .returned (.bool g)∧Below w.heap.size w w':=by
 obtain ⟨cs9,t9_,hp,hp0⟩:=hR
 refine calls_sym Tryz.func115 rfl (by kernel_rfl) fun T hK=>?_
 replace hK:Kn T _ [(0,.agg #[.slice a1 n1 c1,.slice a2 n2 c2,.slice a3 n3 c3,.slice a4 n4 c4,.slice a5 n5 c5,.bool b]),(1,.pointer (some ⟨p,0,none⟩))]:=hK
 have hS:=Fb.other hp
 have hG:GsAt [gN a1 n1 wa,gN a2 n2 wb,gN a3 n3 pa,gN a4 n4 pb] w:=⟨h1,h2,h3,h4,trivial⟩
 refine wq hS hG hK (fun p1=>[.n 2 #[.slice a1 n1 c1,.slice a2 n2 c2,.slice a3 n3 c3,.slice a4 n4 c4,.slice a5 n5 c5,.bool b] 147,.v 4 (.bool false)]) (fun p1=>[(1,.pointer (some ⟨p,0,none⟩)),(2,pT (p1 0).N 0),(4,.bool false)]) (fun p1=>?_) (fun p1 W1 T hF hK=>?_)
 ·refine okn ?_
  refine okv ?_
  exact ok_nil
 replace hS:=SymF.fc hS hF [0,1000] [⟨p,cs9,t9_,false⟩,⟨(p1 0).N,#[.slice a1 n1 c1,.slice a2 n2 c2,.slice a3 n3 c3,.slice a4 n4 c4,.slice a5 n5 c5,.bool b],147,true⟩]
 replace hG:=hF.gx
 clear hF
 refine wp_seq ?_
 refine wq hS hG hK (fun p2=>[.v 6 (.pointer (some ⟨p,0,none⟩)),.v 7 (pT (p1 0).N 0),.l 8 (.agg #[.slice a1 n1 c1]) 1 0,.v 9 (pT (p1 0).N 1),.l 10 (.agg #[.slice a2 n2 c2]) 1 1,.c (some 11) (cV (.int .i64 r1)),.v 5 (.int .i64 r1)]) (fun p2=>[(1,.pointer (some ⟨p,0,none⟩)),(2,pT (p1 0).N 0),(4,.bool false),(5,.int .i64 r1)]) (fun p2=>?_) (fun p2 W2 T hF hK=>?_)
 ·iterate 2 refine okv ?_
  refine okl ?_
  refine okv ?_
  refine okl ?_
  refine okc (fun W cx=>as_v (unhide H1 _ _ _ c1 _ _ c2 ⟨_,_,cx.B 0 _ rfl (by kernel_rfl) (by kernel_rfl),hp0⟩ (cx.G.1) (cx.G.2.1))) ?_
  refine okv ?_
  exact ok_nil
 obtain ⟨hS,hG⟩:=SymF.fg hS hF
 clear hF
 refine wq hS hG hK (fun p3=>[.v 12 (.int .i64 r1),.v 13 (.bool false)]) (fun p3=>[(1,.pointer (some ⟨p,0,none⟩)),(2,pT (p1 0).N 0),(4,.bool false),(5,.int .i64 r1),(13,.bool false)]) (fun p3=>?_) (fun p3 W3 T hF hK=>?_)
 ·refine okv ?_
  refine okvb ((bne_eq_false_iff_eq.2 (show r1 = 0 by omega))) ?_
  exact ok_nil
 obtain ⟨hS,hG⟩:=SymF.fg hS hF
 clear hF
 refine wp_cond_false (hK.ew 13) (wp_skip (then_n ?_))
 refine wq hS hG hK (fun p4=>[.v 16 (.pointer (some ⟨p,0,none⟩)),.v 17 (pT (p1 0).N 2),.l 18 (.agg #[.slice a3 n3 c3]) 1 2,.v 19 (pT (p1 0).N 3),.l 20 (.agg #[.slice a4 n4 c4]) 1 3,.c (some 21) (cV (.int .i64 r2)),.v 22 (.bool g),.v 4 (.bool g)]) (fun p4=>[(4,.bool g),(5,.int .i64 r1)]) (fun p4=>?_) (fun p4 W4 T hF hK=>?_)
 ·iterate 2 refine okv ?_
  refine okl ?_
  refine okv ?_
  refine okl ?_
  refine okc (fun W cx=>as_v (unhide H2 _ _ _ c3 _ _ c4 ⟨_,_,cx.B 0 _ rfl (by kernel_rfl) (by kernel_rfl),hp0⟩ (cx.G.2.2.1) (cx.G.2.2.2.1))) ?_
  refine okvb (hg) ?_
  refine okv ?_
  exact ok_nil
 obtain ⟨hS,hG⟩:=SymF.fg hS hF
 clear hF
 refine wp_ret ?_
 exact sym_end hS hK (.bool g) [] [] (by kernel_rfl) (by kernel_rfl) ⟨rfl,hS.fr⟩
theorem zapa_tl (w:World) (p:Nat) (a1 a2 a3 a4:Option Addr) (n1 n2 n3 n4 c1 c2 c3 c4 m1 d1 m2 d2:Nat) (s t b g:Bool) (wa wb pa pb dn wh wi u v x y z:Nat) (r:Int) (hR:Rz w p 0) (h1:Num w a1 n1 m1) (h2:Num w a2 n2 d1) (h3:Num w a3 n3 m2) (h4:Num w a4 n4 d2) (HS:Hid (WSpl p s t m1 d1 m2 d2 wa wb pa pb dn b)) (HB:Hid (WBel p wa wb pa pb true)) (H1:Hid (WTwo 116 p wb wa wh)) (HC:Hid (WCmp p pb pa r)) (hr:r < 0) (H2:Hid (WTwo 116 p wh 1 wi)) (H3:Hid (WTwo 116 p dn pa u)) (H4:Hid (WTwo 114 p u pb v)) (H5:Hid (WTwo 89 p wi dn x)) (H6:Hid (WTwo 116 p v 0 y)) (H7:Hid (WTwo 114 p x y z)) (HF:Hid (WFr p t z dn g))  :
  Calls Tryz.prog 88 #[.pointer (some ⟨p,0,none⟩),.agg #[.bool s,.slice a1 n1 c1,.slice a2 n2 c2,.bool t,.slice a3 n3 c3,.slice a4 n4 c4]] w fun en w'=>(∃ A N C A' N' C',en = .returned (.tuple #[.agg #[.bool g,.slice A N C,.slice A' N' C'],.int .i64 0])∧Mine w' w.heap.size A N C z∧Mine w' w.heap.size A' N' C' dn)∧Below w.heap.size w w':=by
 obtain ⟨cs9,t9_,hp,hp0⟩:=hR
 refine calls_sym Tryz.func88 rfl (by kernel_rfl) fun T hK=>?_
 replace hK:Kn T _ [(0,.pointer (some ⟨p,0,none⟩)),(1,.agg #[.bool s,.slice a1 n1 c1,.slice a2 n2 c2,.bool t,.slice a3 n3 c3,.slice a4 n4 c4])]:=hK
 have hS:=Fb.other hp
 have hG:GsAt [gN a1 n1 m1,gN a2 n2 d1,gN a3 n3 m2,gN a4 n4 d2] w:=⟨h1,h2,h3,h4,trivial⟩
 refine wq hS hG hK (fun p1=>[.n 3 #[.bool s,.slice a1 n1 c1,.slice a2 n2 c2,.bool t,.slice a3 n3 c3,.slice a4 n4 c4] 86,.n 4 #[.bool false,.slice none 0 0,.slice none 0 0] 28,.v 5 (.int .i64 0)]) (fun p1=>[(0,.pointer (some ⟨p,0,none⟩)),(3,pT (p1 0).N 0),(4,pT (p1 1).N 0),(5,.int .i64 0)]) (fun p1=>?_) (fun p1 W1 T hF hK=>?_)
 ·iterate 2 refine okn ?_
  refine okv ?_
  exact ok_nil
 replace hS:=SymF.fc hS hF [0,1000,1001] [⟨p,cs9,t9_,false⟩,⟨(p1 0).N,#[.bool s,.slice a1 n1 c1,.slice a2 n2 c2,.bool t,.slice a3 n3 c3,.slice a4 n4 c4],86,true⟩,⟨(p1 1).N,#[.bool false,.slice none 0 0,.slice none 0 0],28,true⟩]
 replace hG:=hF.gx
 clear hF
 have z1:=hS.fr.size
 refine wq hS hG hK (fun p2=>[.v 10 (.pointer (some ⟨p,0,none⟩)),.l 11 (.agg #[.bool s,.slice a1 n1 c1,.slice a2 n2 c2,.bool t,.slice a3 n3 c3,.slice a4 n4 c4]) 1 0,.c (some 12) (c5 W1.heap.size wa wb pa pb dn b),.n 6 #[.slice none 0 0,.slice none 0 0,.slice none 0 0,.slice none 0 0,.slice none 0 0,.bool false] 147,.p 1003 0 [.slice (p2 2).A (p2 2).N (p2 2).C,.slice (p2 2).A' (p2 2).N' (p2 2).C',.slice (p2 2).A2 (p2 2).N2 (p2 2).C2,.slice (p2 2).A3 (p2 2).N3 (p2 2).C3,.slice (p2 2).A4 (p2 2).N4 (p2 2).C4,.bool b]]) (fun p2=>[(0,.pointer (some ⟨p,0,none⟩)),(3,pT (p1 0).N 0),(4,pT (p1 1).N 0),(5,.int .i64 0),(6,pT (p2 3).N 0)]) (fun p2=>?_) (fun p2 W2 T hF hK=>?_)
 ·refine okv ?_
  refine okl ?_
  refine okc (fun W cx=>as_5 cx.hb (unhide HS _ _ _ c1 _ _ c2 _ _ c3 _ _ c4 ⟨_,_,cx.B 0 _ rfl (by kernel_rfl) (by kernel_rfl),hp0⟩ (cx.G.1) (cx.G.2.1) (cx.G.2.2.1) (cx.G.2.2.2.1))) ?_
  refine okn ?_
  refine okp ?_
  exact ok_nil
 replace hS:=SymF.fc hS hF [0,1,2,1003] [⟨p,cs9,t9_,false⟩,⟨(p1 0).N,#[.bool s,.slice a1 n1 c1,.slice a2 n2 c2,.bool t,.slice a3 n3 c3,.slice a4 n4 c4],86,true⟩,⟨(p1 1).N,#[.bool false,.slice none 0 0,.slice none 0 0],28,true⟩,⟨(p2 3).N,#[.slice (p2 2).A (p2 2).N (p2 2).C,.slice (p2 2).A' (p2 2).N' (p2 2).C',.slice (p2 2).A2 (p2 2).N2 (p2 2).C2,.slice (p2 2).A3 (p2 2).N3 (p2 2).C3,.slice (p2 2).A4 (p2 2).N4 (p2 2).C4,.bool b],147,true⟩]
 replace hG:GsAt (gM W1.heap.size (p2 2).A (p2 2).N (p2 2).C wa :: gM W1.heap.size (p2 2).A' (p2 2).N' (p2 2).C' wb :: gM W1.heap.size (p2 2).A2 (p2 2).N2 (p2 2).C2 pa :: gM W1.heap.size (p2 2).A3 (p2 2).N3 (p2 2).C3 pb :: gM W1.heap.size (p2 2).A4 (p2 2).N4 (p2 2).C4 dn :: _) W2:=⟨(hF.fx 2).1,(hF.fx 2).2.1,(hF.fx 2).2.2.1,(hF.fx 2).2.2.2.1,(hF.fx 2).2.2.2.2,hF.gx⟩
 clear hF
 refine wq hS hG hK (fun p3=>[.v 13 (pT (p1 0).N 0),.v 14 (pT (p1 0).N 0),.l 15 (.bool s) 1 0,.v 7 (.bool s)]) (fun p3=>[(0,.pointer (some ⟨p,0,none⟩)),(3,pT (p1 0).N 0),(4,pT (p1 1).N 0),(5,.int .i64 0),(6,pT (p2 3).N 0),(7,.bool s)]) (fun p3=>?_) (fun p3 W3 T hF hK=>?_)
 ·iterate 2 refine okv ?_
  refine okl ?_
  refine okv ?_
  exact ok_nil
 obtain ⟨hS,hG⟩:=SymF.fg hS hF
 clear hF
 refine wp_seq ?_
 refine wq hS hG hK (fun p4=>[.l 16 (.agg #[.slice (p2 2).A (p2 2).N (p2 2).C,.slice (p2 2).A' (p2 2).N' (p2 2).C',.slice (p2 2).A2 (p2 2).N2 (p2 2).C2,.slice (p2 2).A3 (p2 2).N3 (p2 2).C3,.slice (p2 2).A4 (p2 2).N4 (p2 2).C4,.bool b]) 3 0,.v 17 (.pointer (some ⟨p,0,none⟩)),.c (some 18) (cV (.bool true))]) (fun p4=>[(0,.pointer (some ⟨p,0,none⟩)),(3,pT (p1 0).N 0),(4,pT (p1 1).N 0),(5,.int .i64 0),(6,pT (p2 3).N 0),(7,.bool s),(18,.bool true)]) (fun p4=>?_) (fun p4 W4 T hF hK=>?_)
 ·refine okl ?_
  refine okv ?_
  refine okc (fun W cx=>as_v (unhide HB _ (p2 2).A (p2 2).N (p2 2).C (p2 2).A' (p2 2).N' (p2 2).C' (p2 2).A2 (p2 2).N2 (p2 2).C2 (p2 2).A3 (p2 2).N3 (p2 2).C3 (p2 2).A4 (p2 2).N4 (p2 2).C4 b ⟨_,_,cx.B 0 _ rfl (by kernel_rfl) (by kernel_rfl),hp0⟩ (Mine.num cx.G.1) (Mine.num cx.G.2.1) (Mine.num cx.G.2.2.1) (Mine.num cx.G.2.2.2.1))) ?_
  exact ok_nil
 obtain ⟨hS,hG⟩:=SymF.fg hS hF
 clear hF
 refine wp_cond_true (hK.ew 18) ?_
 refine wq hS hG hK (fun p5=>[.v 19 (pT (p1 0).N 3),.v 20 (pT (p1 0).N 3),.l 21 (.bool t) 1 3,.v 7 (.bool t)]) (fun p5=>[(0,.pointer (some ⟨p,0,none⟩)),(4,pT (p1 1).N 0),(5,.int .i64 0),(6,pT (p2 3).N 0),(7,.bool t)]) (fun p5=>?_) (fun p5 W5 T hF hK=>?_)
 ·iterate 2 refine okv ?_
  refine okl ?_
  refine okv ?_
  exact ok_nil
 obtain ⟨hS,hG⟩:=SymF.fg hS hF
 clear hF
 refine wq hS hG hK (fun p6=>[.v 22 (pT (p2 3).N 1),.l 23 (.agg #[.slice (p2 2).A' (p2 2).N' (p2 2).C']) 3 1,.v 24 (pT (p2 3).N 0),.l 25 (.agg #[.slice (p2 2).A (p2 2).N (p2 2).C]) 3 0,.v 26 (pT (p2 3).N 0),.p 3 0 [.slice (p2 2).A' (p2 2).N' (p2 2).C'],.v 27 (pT (p2 3).N 1),.p 3 1 [.slice (p2 2).A (p2 2).N (p2 2).C]]) (fun p6=>[(0,.pointer (some ⟨p,0,none⟩)),(4,pT (p1 1).N 0),(5,.int .i64 0),(6,pT (p2 3).N 0),(7,.bool t)]) (fun p6=>?_) (fun p6 W6 T hF hK=>?_)
 ·refine okv ?_
  refine okl ?_
  refine okv ?_
  refine okl ?_
  refine okv ?_
  refine okp ?_
  refine okv ?_
  refine okp ?_
  exact ok_nil
 replace hS:=SymF.fc hS hF [0,2,3] [⟨p,cs9,t9_,false⟩,⟨(p1 1).N,#[.bool false,.slice none 0 0,.slice none 0 0],28,true⟩,⟨(p2 3).N,#[.slice (p2 2).A' (p2 2).N' (p2 2).C',.slice (p2 2).A (p2 2).N (p2 2).C,.slice (p2 2).A2 (p2 2).N2 (p2 2).C2,.slice (p2 2).A3 (p2 2).N3 (p2 2).C3,.slice (p2 2).A4 (p2 2).N4 (p2 2).C4,.bool b],147,true⟩]
 replace hG:=hF.gx
 clear hF
 refine wg hS hG hK (fun p7=>[.v 28 (pT (p2 3).N 3),.l 29 (.agg #[.slice (p2 2).A3 (p2 2).N3 (p2 2).C3]) 2 3,.v 30 (pT (p2 3).N 2),.l 31 (.agg #[.slice (p2 2).A2 (p2 2).N2 (p2 2).C2]) 2 2,.v 32 (pT (p2 3).N 2),.p 2 2 [.slice (p2 2).A3 (p2 2).N3 (p2 2).C3],.v 33 (pT (p2 3).N 3),.p 2 3 [.slice (p2 2).A2 (p2 2).N2 (p2 2).C2]]) (fun p7=>[(0,.pointer (some ⟨p,0,none⟩)),(4,pT (p1 1).N 0),(5,.int .i64 0),(6,pT (p2 3).N 0),(7,.bool t)]) (fun p7=>?_) (fun p7 W7 T hF hK=>?_)
 ·refine okv ?_
  refine okl ?_
  refine okv ?_
  refine okl ?_
  refine okv ?_
  refine okp ?_
  refine okv ?_
  refine okp ?_
  exact ok_nil
 replace hS:=SymF.fc hS hF [0,1,2] [⟨p,cs9,t9_,false⟩,⟨(p1 1).N,#[.bool false,.slice none 0 0,.slice none 0 0],28,true⟩,⟨(p2 3).N,#[.slice (p2 2).A' (p2 2).N' (p2 2).C',.slice (p2 2).A (p2 2).N (p2 2).C,.slice (p2 2).A3 (p2 2).N3 (p2 2).C3,.slice (p2 2).A2 (p2 2).N2 (p2 2).C2,.slice (p2 2).A4 (p2 2).N4 (p2 2).C4,.bool b],147,true⟩]
 replace hG:=hF.gx
 clear hF
 refine then_n ?_
 refine wq hS hG hK (fun p8=>[.v 34 (.pointer (some ⟨p,0,none⟩)),.v 35 (pT (p2 3).N 0),.l 36 (.agg #[.slice (p2 2).A' (p2 2).N' (p2 2).C']) 2 0,.v 37 (pT (p2 3).N 1),.l 38 (.agg #[.slice (p2 2).A (p2 2).N (p2 2).C]) 2 1,.c (some 39) (cN W7.heap.size wh),.n 8 #[.slice none 0 0] 26,.p 1006 0 [.slice (p8 5).A (p8 5).N (p8 5).C]]) (fun p8=>[(0,.pointer (some ⟨p,0,none⟩)),(4,pT (p1 1).N 0),(5,.int .i64 0),(6,pT (p2 3).N 0),(7,.bool t),(8,pT (p8 6).N 0)]) (fun p8=>?_) (fun p8 W8 T hF hK=>?_)
 ·iterate 2 refine okv ?_
  refine okl ?_
  refine okv ?_
  refine okl ?_
  refine okc (fun W cx=>as_n cx.hb (unhide H1 _ _ _ (p2 2).C' _ _ (p2 2).C ⟨_,_,cx.B 0 _ rfl (by kernel_rfl) (by kernel_rfl),hp0⟩ (Mine.num cx.G.2.1) (Mine.num cx.G.1))) ?_
  refine okn ?_
  refine okp ?_
  exact ok_nil
 replace hS:=SymF.fc hS hF [0,1,2,1006] [⟨p,cs9,t9_,false⟩,⟨(p1 1).N,#[.bool false,.slice none 0 0,.slice none 0 0],28,true⟩,⟨(p2 3).N,#[.slice (p2 2).A' (p2 2).N' (p2 2).C',.slice (p2 2).A (p2 2).N (p2 2).C,.slice (p2 2).A3 (p2 2).N3 (p2 2).C3,.slice (p2 2).A2 (p2 2).N2 (p2 2).C2,.slice (p2 2).A4 (p2 2).N4 (p2 2).C4,.bool b],147,true⟩,⟨(p8 6).N,#[.slice (p8 5).A (p8 5).N (p8 5).C],26,true⟩]
 replace hG:GsAt (gM W7.heap.size (p8 5).A (p8 5).N (p8 5).C wh :: _) W8:=⟨hF.fx 5,hF.gx⟩
 clear hF
 refine wp_seq ?_
 refine wq hS hG hK (fun p9=>[.v 40 (.pointer (some ⟨p,0,none⟩)),.v 41 (pT (p2 3).N 2),.l 42 (.agg #[.slice (p2 2).A3 (p2 2).N3 (p2 2).C3]) 2 2,.v 43 (pT (p2 3).N 3),.l 44 (.agg #[.slice (p2 2).A2 (p2 2).N2 (p2 2).C2]) 2 3,.c (some 45) (cV (.int .i64 r)),.v 46 (.bool true)]) (fun p9=>[(0,.pointer (some ⟨p,0,none⟩)),(4,pT (p1 1).N 0),(5,.int .i64 0),(6,pT (p2 3).N 0),(7,.bool t),(8,pT (p8 6).N 0),(46,.bool true)]) (fun p9=>?_) (fun p9 W9 T hF hK=>?_)
 ·iterate 2 refine okv ?_
  refine okl ?_
  refine okv ?_
  refine okl ?_
  refine okc (fun W cx=>as_v (unhide HC _ _ _ (p2 2).C3 _ _ (p2 2).C2 ⟨_,_,cx.B 0 _ rfl (by kernel_rfl) (by kernel_rfl),hp0⟩ (Mine.num cx.G.2.2.2.2.1) (Mine.num cx.G.2.2.2.1))) ?_
  refine okvb (decide_eq_true (show r < 0 by omega)) ?_
  exact ok_nil
 obtain ⟨hS,hG⟩:=SymF.fg hS hF
 clear hF
 refine wp_cond_true (hK.ew 46) ?_
 refine wq hS hG hK (fun p10=>[.v 47 (.pointer (some ⟨p,0,none⟩)),.l 48 (.agg #[.slice (p8 5).A (p8 5).N (p8 5).C]) 3 0,.c (some 49) (cN W9.heap.size 1),.c (some 50) (cN W9.heap.size wi),.p 3 0 [.slice (p10 3).A (p10 3).N (p10 3).C]]) (fun p10=>[(0,.pointer (some ⟨p,0,none⟩)),(4,pT (p1 1).N 0),(5,.int .i64 0),(6,pT (p2 3).N 0),(7,.bool t),(8,pT (p8 6).N 0)]) (fun p10=>?_) (fun p10 W10 T hF hK=>?_)
 ·refine okv ?_
  refine okl ?_
  refine okc (fun W cx=>as_n cx.hb (of_any 1 _ (by decide))) ?_
  refine okc (fun W cx=>as_n cx.hb (unhide H2 _ _ _ (p8 5).C _ _ (p10 2).C ⟨_,_,cx.B 0 _ rfl (by kernel_rfl) (by kernel_rfl),hp0⟩ (Mine.num cx.G.1) (Mine.num (cx.F 2 (by kernel_rfl))))) ?_
  refine okp ?_
  exact ok_nil
 replace hS:=SymF.fc hS hF [0,1,2,3] [⟨p,cs9,t9_,false⟩,⟨(p1 1).N,#[.bool false,.slice none 0 0,.slice none 0 0],28,true⟩,⟨(p2 3).N,#[.slice (p2 2).A' (p2 2).N' (p2 2).C',.slice (p2 2).A (p2 2).N (p2 2).C,.slice (p2 2).A3 (p2 2).N3 (p2 2).C3,.slice (p2 2).A2 (p2 2).N2 (p2 2).C2,.slice (p2 2).A4 (p2 2).N4 (p2 2).C4,.bool b],147,true⟩,⟨(p8 6).N,#[.slice (p10 3).A (p10 3).N (p10 3).C],26,true⟩]
 replace hG:GsAt (gM W9.heap.size (p10 2).A (p10 2).N (p10 2).C 1 :: gM W9.heap.size (p10 3).A (p10 3).N (p10 3).C wi :: _) W10:=⟨hF.fx 2,hF.fx 3,hF.gx⟩
 clear hF
 refine wq hS hG hK (fun p11=>[.v 51 (.pointer (some ⟨p,0,none⟩)),.v 52 (.pointer (some ⟨p,0,none⟩)),.v 53 (pT (p2 3).N 4),.l 54 (.agg #[.slice (p2 2).A4 (p2 2).N4 (p2 2).C4]) 2 4,.v 55 (pT (p2 3).N 3),.l 56 (.agg #[.slice (p2 2).A2 (p2 2).N2 (p2 2).C2]) 2 3,.c (some 57) (cN W10.heap.size u),.v 58 (pT (p2 3).N 2),.l 59 (.agg #[.slice (p2 2).A3 (p2 2).N3 (p2 2).C3]) 2 2,.c (some 60) (cN W10.heap.size v),.v 61 (pT (p2 3).N 2),.p 2 2 [.slice (p11 9).A (p11 9).N (p11 9).C]]) (fun p11=>[(0,.pointer (some ⟨p,0,none⟩)),(4,pT (p1 1).N 0),(5,.int .i64 0),(6,pT (p2 3).N 0),(7,.bool t),(8,pT (p8 6).N 0)]) (fun p11=>?_) (fun p11 W11 T hF hK=>?_)
 ·iterate 3 refine okv ?_
  refine okl ?_
  refine okv ?_
  refine okl ?_
  refine okc (fun W cx=>as_n cx.hb (unhide H3 _ _ _ (p2 2).C4 _ _ (p2 2).C2 ⟨_,_,cx.B 0 _ rfl (by kernel_rfl) (by kernel_rfl),hp0⟩ (Mine.num cx.G.2.2.2.2.2.2.2.1) (Mine.num cx.G.2.2.2.2.2.1))) ?_
  refine okv ?_
  refine okl ?_
  refine okc (fun W cx=>as_n cx.hb (unhide H4 _ _ _ (p11 6).C _ _ (p2 2).C3 ⟨_,_,cx.B 0 _ rfl (by kernel_rfl) (by kernel_rfl),hp0⟩ (Mine.num (cx.F 6 (by kernel_rfl))) (Mine.num cx.G.2.2.2.2.2.2.1))) ?_
  refine okv ?_
  refine okp ?_
  exact ok_nil
 replace hS:=SymF.fc hS hF [0,1,2,3] [⟨p,cs9,t9_,false⟩,⟨(p1 1).N,#[.bool false,.slice none 0 0,.slice none 0 0],28,true⟩,⟨(p2 3).N,#[.slice (p2 2).A' (p2 2).N' (p2 2).C',.slice (p2 2).A (p2 2).N (p2 2).C,.slice (p11 9).A (p11 9).N (p11 9).C,.slice (p2 2).A2 (p2 2).N2 (p2 2).C2,.slice (p2 2).A4 (p2 2).N4 (p2 2).C4,.bool b],147,true⟩,⟨(p8 6).N,#[.slice (p10 3).A (p10 3).N (p10 3).C],26,true⟩]
 replace hG:GsAt (gM W10.heap.size (p11 6).A (p11 6).N (p11 6).C u :: gM W10.heap.size (p11 9).A (p11 9).N (p11 9).C v :: _) W11:=⟨hF.fx 6,hF.fx 9,hF.gx⟩
 clear hF
 refine wg hS hG hK (fun p12=>[.v 62 (.agg #[.slice none 0 0]),.v 63 (pT (p2 3).N 3),.p 2 3 [.slice none 0 0]]) (fun p12=>[(0,.pointer (some ⟨p,0,none⟩)),(4,pT (p1 1).N 0),(5,.int .i64 0),(6,pT (p2 3).N 0),(7,.bool t),(8,pT (p8 6).N 0)]) (fun p12=>?_) (fun p12 W12 T hF hK=>?_)
 ·iterate 2 refine okv ?_
  refine okp ?_
  exact ok_nil
 replace hS:=SymF.fc hS hF [0,1,2,3] [⟨p,cs9,t9_,false⟩,⟨(p1 1).N,#[.bool false,.slice none 0 0,.slice none 0 0],28,true⟩,⟨(p2 3).N,#[.slice (p2 2).A' (p2 2).N' (p2 2).C',.slice (p2 2).A (p2 2).N (p2 2).C,.slice (p11 9).A (p11 9).N (p11 9).C,.slice none 0 0,.slice (p2 2).A4 (p2 2).N4 (p2 2).C4,.bool b],147,true⟩,⟨(p8 6).N,#[.slice (p10 3).A (p10 3).N (p10 3).C],26,true⟩]
 replace hG:=hF.gx
 clear hF
 have z12:=hS.fr.size
 refine then_n ?_
 refine wq hS hG hK (fun p13=>[.v 64 (.pointer (some ⟨p,0,none⟩)),.v 65 (.pointer (some ⟨p,0,none⟩)),.l 66 (.agg #[.slice (p10 3).A (p10 3).N (p10 3).C]) 3 0,.v 67 (pT (p2 3).N 4),.l 68 (.agg #[.slice (p2 2).A4 (p2 2).N4 (p2 2).C4]) 2 4,.c (some 69) (cN W12.heap.size x),.v 70 (.pointer (some ⟨p,0,none⟩)),.v 71 (pT (p2 3).N 2),.l 72 (.agg #[.slice (p11 9).A (p11 9).N (p11 9).C]) 2 2,.v 73 (pT (p2 3).N 3),.l 74 (.agg #[.slice none 0 0]) 2 3,.c (some 75) (cN W12.heap.size y),.c (some 76) (cN W12.heap.size z),.n 9 #[.slice none 0 0] 26,.p 1013 0 [.slice (p13 12).A (p13 12).N (p13 12).C]]) (fun p13=>[(0,.pointer (some ⟨p,0,none⟩)),(4,pT (p1 1).N 0),(5,.int .i64 0),(6,pT (p2 3).N 0),(7,.bool t),(9,pT (p13 13).N 0)]) (fun p13=>?_) (fun p13 W13 T hF hK=>?_)
 ·iterate 2 refine okv ?_
  refine okl ?_
  refine okv ?_
  refine okl ?_
  refine okc (fun W cx=>as_n cx.hb (unhide H5 _ _ _ (p10 3).C _ _ (p2 2).C4 ⟨_,_,cx.B 0 _ rfl (by kernel_rfl) (by kernel_rfl),hp0⟩ (Mine.num cx.G.2.2.2.1) (Mine.num cx.G.2.2.2.2.2.2.2.2.2.1))) ?_
  iterate 2 refine okv ?_
  refine okl ?_
  refine okv ?_
  refine okl ?_
  refine okc (fun W cx=>as_n cx.hb (unhide H6 _ _ _ (p11 9).C _ _ 0 ⟨_,_,cx.B 0 _ rfl (by kernel_rfl) (by kernel_rfl),hp0⟩ (Mine.num cx.G.2.1) (Num.znil _))) ?_
  refine okc (fun W cx=>as_n cx.hb (unhide H7 _ _ _ (p13 5).C _ _ (p13 11).C ⟨_,_,cx.B 0 _ rfl (by kernel_rfl) (by kernel_rfl),hp0⟩ (Mine.num (cx.F 5 (by kernel_rfl))) (Mine.num (cx.F 11 (by kernel_rfl))))) ?_
  refine okn ?_
  refine okp ?_
  exact ok_nil
 replace hS:=SymF.fc hS hF [0,1,2,1013] [⟨p,cs9,t9_,false⟩,⟨(p1 1).N,#[.bool false,.slice none 0 0,.slice none 0 0],28,true⟩,⟨(p2 3).N,#[.slice (p2 2).A' (p2 2).N' (p2 2).C',.slice (p2 2).A (p2 2).N (p2 2).C,.slice (p11 9).A (p11 9).N (p11 9).C,.slice none 0 0,.slice (p2 2).A4 (p2 2).N4 (p2 2).C4,.bool b],147,true⟩,⟨(p13 13).N,#[.slice (p13 12).A (p13 12).N (p13 12).C],26,true⟩]
 replace hG:GsAt (gM W12.heap.size (p13 5).A (p13 5).N (p13 5).C x :: gM W12.heap.size (p13 11).A (p13 11).N (p13 11).C y :: gM W12.heap.size (p13 12).A (p13 12).N (p13 12).C z :: _) W13:=⟨hF.fx 5,hF.fx 11,hF.fx 12,hF.gx⟩
 clear hF
 refine wq hS hG hK (fun p14=>[.v 77 (.pointer (some ⟨p,0,none⟩)),.v 78 (.bool t),.l 79 (.agg #[.slice (p13 12).A (p13 12).N (p13 12).C]) 3 0,.v 80 (pT (p2 3).N 4),.l 81 (.agg #[.slice (p2 2).A4 (p2 2).N4 (p2 2).C4]) 2 4,.c (some 82) (cV (.tuple #[.agg #[.bool g,.slice (p13 12).A (p13 12).N (p13 12).C,.slice (p2 2).A4 (p2 2).N4 (p2 2).C4],.int .i64 0])),.v 83 (.agg #[.bool g,.slice (p13 12).A (p13 12).N (p13 12).C,.slice (p2 2).A4 (p2 2).N4 (p2 2).C4]),.v 84 (.int .i64 0),.p 1 0 [.bool g,.slice (p13 12).A (p13 12).N (p13 12).C,.slice (p2 2).A4 (p2 2).N4 (p2 2).C4],.v 5 (.int .i64 0)]) (fun p14=>[(4,pT (p1 1).N 0),(5,.int .i64 0)]) (fun p14=>?_) (fun p14 W14 T hF hK=>?_)
 ·iterate 2 refine okv ?_
  refine okl ?_
  refine okv ?_
  refine okl ?_
  refine okc (fun W cx=>as_v (unhide HF _ _ _ (p13 12).C _ _ (p2 2).C4 ⟨_,_,cx.B 0 _ rfl (by kernel_rfl) (by kernel_rfl),hp0⟩ (Mine.num cx.G.2.2.1) (Mine.num cx.G.2.2.2.2.2.2.2.2.2.2.2.2.1))) ?_
  iterate 2 refine okv ?_
  refine okp ?_
  refine okv ?_
  exact ok_nil
 replace hS:=SymF.fc hS hF [0,1] [⟨p,cs9,t9_,false⟩,⟨(p1 1).N,#[.bool g,.slice (p13 12).A (p13 12).N (p13 12).C,.slice (p2 2).A4 (p2 2).N4 (p2 2).C4],28,true⟩]
 replace hG:=hF.gx
 clear hF
 refine wp_ret ?_
 exact sym_end hS hK (.tuple #[.agg #[.bool g,.slice (p13 12).A (p13 12).N (p13 12).C,.slice (p2 2).A4 (p2 2).N4 (p2 2).C4],.int .i64 0]) [(1,0,3)] [.bool g,.slice (p13 12).A (p13 12).N (p13 12).C,.slice (p2 2).A4 (p2 2).N4 (p2 2).C4] (by kernel_rfl) (by kernel_rfl) ⟨⟨_,_,_,_,_,_,rfl,Mine.mono hG.2.2.1 z12,Mine.mono hG.2.2.2.2.2.2.2.2.2.2.2.2.1 z1⟩,hS.fr⟩
theorem zapa_tg (w:World) (p:Nat) (a1 a2 a3 a4:Option Addr) (n1 n2 n3 n4 c1 c2 c3 c4 m1 d1 m2 d2:Nat) (s t b g:Bool) (wa wb pa pb dn wh x y z:Nat) (r:Int) (hR:Rz w p 0) (h1:Num w a1 n1 m1) (h2:Num w a2 n2 d1) (h3:Num w a3 n3 m2) (h4:Num w a4 n4 d2) (HS:Hid (WSpl p s t m1 d1 m2 d2 wa wb pa pb dn b)) (HB:Hid (WBel p wa wb pa pb true)) (H1:Hid (WTwo 116 p wb wa wh)) (HC:Hid (WCmp p pb pa r)) (hr:0≤r) (H5:Hid (WTwo 89 p wh dn x)) (H6:Hid (WTwo 116 p pb pa y)) (H7:Hid (WTwo 114 p x y z)) (HF:Hid (WFr p t z dn g))  :
  Calls Tryz.prog 88 #[.pointer (some ⟨p,0,none⟩),.agg #[.bool s,.slice a1 n1 c1,.slice a2 n2 c2,.bool t,.slice a3 n3 c3,.slice a4 n4 c4]] w fun en w'=>(∃ A N C A' N' C',en = .returned (.tuple #[.agg #[.bool g,.slice A N C,.slice A' N' C'],.int .i64 0])∧Mine w' w.heap.size A N C z∧Mine w' w.heap.size A' N' C' dn)∧Below w.heap.size w w':=by
 obtain ⟨cs9,t9_,hp,hp0⟩:=hR
 refine calls_sym Tryz.func88 rfl (by kernel_rfl) fun T hK=>?_
 replace hK:Kn T _ [(0,.pointer (some ⟨p,0,none⟩)),(1,.agg #[.bool s,.slice a1 n1 c1,.slice a2 n2 c2,.bool t,.slice a3 n3 c3,.slice a4 n4 c4])]:=hK
 have hS:=Fb.other hp
 have hG:GsAt [gN a1 n1 m1,gN a2 n2 d1,gN a3 n3 m2,gN a4 n4 d2] w:=⟨h1,h2,h3,h4,trivial⟩
 refine wq hS hG hK (fun p1=>[.n 3 #[.bool s,.slice a1 n1 c1,.slice a2 n2 c2,.bool t,.slice a3 n3 c3,.slice a4 n4 c4] 86,.n 4 #[.bool false,.slice none 0 0,.slice none 0 0] 28,.v 5 (.int .i64 0)]) (fun p1=>[(0,.pointer (some ⟨p,0,none⟩)),(3,pT (p1 0).N 0),(4,pT (p1 1).N 0),(5,.int .i64 0)]) (fun p1=>?_) (fun p1 W1 T hF hK=>?_)
 ·iterate 2 refine okn ?_
  refine okv ?_
  exact ok_nil
 replace hS:=SymF.fc hS hF [0,1000,1001] [⟨p,cs9,t9_,false⟩,⟨(p1 0).N,#[.bool s,.slice a1 n1 c1,.slice a2 n2 c2,.bool t,.slice a3 n3 c3,.slice a4 n4 c4],86,true⟩,⟨(p1 1).N,#[.bool false,.slice none 0 0,.slice none 0 0],28,true⟩]
 replace hG:=hF.gx
 clear hF
 have z1:=hS.fr.size
 refine wq hS hG hK (fun p2=>[.v 10 (.pointer (some ⟨p,0,none⟩)),.l 11 (.agg #[.bool s,.slice a1 n1 c1,.slice a2 n2 c2,.bool t,.slice a3 n3 c3,.slice a4 n4 c4]) 1 0,.c (some 12) (c5 W1.heap.size wa wb pa pb dn b),.n 6 #[.slice none 0 0,.slice none 0 0,.slice none 0 0,.slice none 0 0,.slice none 0 0,.bool false] 147,.p 1003 0 [.slice (p2 2).A (p2 2).N (p2 2).C,.slice (p2 2).A' (p2 2).N' (p2 2).C',.slice (p2 2).A2 (p2 2).N2 (p2 2).C2,.slice (p2 2).A3 (p2 2).N3 (p2 2).C3,.slice (p2 2).A4 (p2 2).N4 (p2 2).C4,.bool b]]) (fun p2=>[(0,.pointer (some ⟨p,0,none⟩)),(3,pT (p1 0).N 0),(4,pT (p1 1).N 0),(5,.int .i64 0),(6,pT (p2 3).N 0)]) (fun p2=>?_) (fun p2 W2 T hF hK=>?_)
 ·refine okv ?_
  refine okl ?_
  refine okc (fun W cx=>as_5 cx.hb (unhide HS _ _ _ c1 _ _ c2 _ _ c3 _ _ c4 ⟨_,_,cx.B 0 _ rfl (by kernel_rfl) (by kernel_rfl),hp0⟩ (cx.G.1) (cx.G.2.1) (cx.G.2.2.1) (cx.G.2.2.2.1))) ?_
  refine okn ?_
  refine okp ?_
  exact ok_nil
 replace hS:=SymF.fc hS hF [0,1,2,1003] [⟨p,cs9,t9_,false⟩,⟨(p1 0).N,#[.bool s,.slice a1 n1 c1,.slice a2 n2 c2,.bool t,.slice a3 n3 c3,.slice a4 n4 c4],86,true⟩,⟨(p1 1).N,#[.bool false,.slice none 0 0,.slice none 0 0],28,true⟩,⟨(p2 3).N,#[.slice (p2 2).A (p2 2).N (p2 2).C,.slice (p2 2).A' (p2 2).N' (p2 2).C',.slice (p2 2).A2 (p2 2).N2 (p2 2).C2,.slice (p2 2).A3 (p2 2).N3 (p2 2).C3,.slice (p2 2).A4 (p2 2).N4 (p2 2).C4,.bool b],147,true⟩]
 replace hG:GsAt (gM W1.heap.size (p2 2).A (p2 2).N (p2 2).C wa :: gM W1.heap.size (p2 2).A' (p2 2).N' (p2 2).C' wb :: gM W1.heap.size (p2 2).A2 (p2 2).N2 (p2 2).C2 pa :: gM W1.heap.size (p2 2).A3 (p2 2).N3 (p2 2).C3 pb :: gM W1.heap.size (p2 2).A4 (p2 2).N4 (p2 2).C4 dn :: _) W2:=⟨(hF.fx 2).1,(hF.fx 2).2.1,(hF.fx 2).2.2.1,(hF.fx 2).2.2.2.1,(hF.fx 2).2.2.2.2,hF.gx⟩
 clear hF
 refine wq hS hG hK (fun p3=>[.v 13 (pT (p1 0).N 0),.v 14 (pT (p1 0).N 0),.l 15 (.bool s) 1 0,.v 7 (.bool s)]) (fun p3=>[(0,.pointer (some ⟨p,0,none⟩)),(3,pT (p1 0).N 0),(4,pT (p1 1).N 0),(5,.int .i64 0),(6,pT (p2 3).N 0),(7,.bool s)]) (fun p3=>?_) (fun p3 W3 T hF hK=>?_)
 ·iterate 2 refine okv ?_
  refine okl ?_
  refine okv ?_
  exact ok_nil
 obtain ⟨hS,hG⟩:=SymF.fg hS hF
 clear hF
 refine wp_seq ?_
 refine wq hS hG hK (fun p4=>[.l 16 (.agg #[.slice (p2 2).A (p2 2).N (p2 2).C,.slice (p2 2).A' (p2 2).N' (p2 2).C',.slice (p2 2).A2 (p2 2).N2 (p2 2).C2,.slice (p2 2).A3 (p2 2).N3 (p2 2).C3,.slice (p2 2).A4 (p2 2).N4 (p2 2).C4,.bool b]) 3 0,.v 17 (.pointer (some ⟨p,0,none⟩)),.c (some 18) (cV (.bool true))]) (fun p4=>[(0,.pointer (some ⟨p,0,none⟩)),(3,pT (p1 0).N 0),(4,pT (p1 1).N 0),(5,.int .i64 0),(6,pT (p2 3).N 0),(7,.bool s),(18,.bool true)]) (fun p4=>?_) (fun p4 W4 T hF hK=>?_)
 ·refine okl ?_
  refine okv ?_
  refine okc (fun W cx=>as_v (unhide HB _ (p2 2).A (p2 2).N (p2 2).C (p2 2).A' (p2 2).N' (p2 2).C' (p2 2).A2 (p2 2).N2 (p2 2).C2 (p2 2).A3 (p2 2).N3 (p2 2).C3 (p2 2).A4 (p2 2).N4 (p2 2).C4 b ⟨_,_,cx.B 0 _ rfl (by kernel_rfl) (by kernel_rfl),hp0⟩ (Mine.num cx.G.1) (Mine.num cx.G.2.1) (Mine.num cx.G.2.2.1) (Mine.num cx.G.2.2.2.1))) ?_
  exact ok_nil
 obtain ⟨hS,hG⟩:=SymF.fg hS hF
 clear hF
 refine wp_cond_true (hK.ew 18) ?_
 refine wq hS hG hK (fun p5=>[.v 19 (pT (p1 0).N 3),.v 20 (pT (p1 0).N 3),.l 21 (.bool t) 1 3,.v 7 (.bool t)]) (fun p5=>[(0,.pointer (some ⟨p,0,none⟩)),(4,pT (p1 1).N 0),(5,.int .i64 0),(6,pT (p2 3).N 0),(7,.bool t)]) (fun p5=>?_) (fun p5 W5 T hF hK=>?_)
 ·iterate 2 refine okv ?_
  refine okl ?_
  refine okv ?_
  exact ok_nil
 obtain ⟨hS,hG⟩:=SymF.fg hS hF
 clear hF
 refine wq hS hG hK (fun p6=>[.v 22 (pT (p2 3).N 1),.l 23 (.agg #[.slice (p2 2).A' (p2 2).N' (p2 2).C']) 3 1,.v 24 (pT (p2 3).N 0),.l 25 (.agg #[.slice (p2 2).A (p2 2).N (p2 2).C]) 3 0,.v 26 (pT (p2 3).N 0),.p 3 0 [.slice (p2 2).A' (p2 2).N' (p2 2).C'],.v 27 (pT (p2 3).N 1),.p 3 1 [.slice (p2 2).A (p2 2).N (p2 2).C]]) (fun p6=>[(0,.pointer (some ⟨p,0,none⟩)),(4,pT (p1 1).N 0),(5,.int .i64 0),(6,pT (p2 3).N 0),(7,.bool t)]) (fun p6=>?_) (fun p6 W6 T hF hK=>?_)
 ·refine okv ?_
  refine okl ?_
  refine okv ?_
  refine okl ?_
  refine okv ?_
  refine okp ?_
  refine okv ?_
  refine okp ?_
  exact ok_nil
 replace hS:=SymF.fc hS hF [0,2,3] [⟨p,cs9,t9_,false⟩,⟨(p1 1).N,#[.bool false,.slice none 0 0,.slice none 0 0],28,true⟩,⟨(p2 3).N,#[.slice (p2 2).A' (p2 2).N' (p2 2).C',.slice (p2 2).A (p2 2).N (p2 2).C,.slice (p2 2).A2 (p2 2).N2 (p2 2).C2,.slice (p2 2).A3 (p2 2).N3 (p2 2).C3,.slice (p2 2).A4 (p2 2).N4 (p2 2).C4,.bool b],147,true⟩]
 replace hG:=hF.gx
 clear hF
 refine wg hS hG hK (fun p7=>[.v 28 (pT (p2 3).N 3),.l 29 (.agg #[.slice (p2 2).A3 (p2 2).N3 (p2 2).C3]) 2 3,.v 30 (pT (p2 3).N 2),.l 31 (.agg #[.slice (p2 2).A2 (p2 2).N2 (p2 2).C2]) 2 2,.v 32 (pT (p2 3).N 2),.p 2 2 [.slice (p2 2).A3 (p2 2).N3 (p2 2).C3],.v 33 (pT (p2 3).N 3),.p 2 3 [.slice (p2 2).A2 (p2 2).N2 (p2 2).C2]]) (fun p7=>[(0,.pointer (some ⟨p,0,none⟩)),(4,pT (p1 1).N 0),(5,.int .i64 0),(6,pT (p2 3).N 0),(7,.bool t)]) (fun p7=>?_) (fun p7 W7 T hF hK=>?_)
 ·refine okv ?_
  refine okl ?_
  refine okv ?_
  refine okl ?_
  refine okv ?_
  refine okp ?_
  refine okv ?_
  refine okp ?_
  exact ok_nil
 replace hS:=SymF.fc hS hF [0,1,2] [⟨p,cs9,t9_,false⟩,⟨(p1 1).N,#[.bool false,.slice none 0 0,.slice none 0 0],28,true⟩,⟨(p2 3).N,#[.slice (p2 2).A' (p2 2).N' (p2 2).C',.slice (p2 2).A (p2 2).N (p2 2).C,.slice (p2 2).A3 (p2 2).N3 (p2 2).C3,.slice (p2 2).A2 (p2 2).N2 (p2 2).C2,.slice (p2 2).A4 (p2 2).N4 (p2 2).C4,.bool b],147,true⟩]
 replace hG:=hF.gx
 clear hF
 refine then_n ?_
 refine wq hS hG hK (fun p8=>[.v 34 (.pointer (some ⟨p,0,none⟩)),.v 35 (pT (p2 3).N 0),.l 36 (.agg #[.slice (p2 2).A' (p2 2).N' (p2 2).C']) 2 0,.v 37 (pT (p2 3).N 1),.l 38 (.agg #[.slice (p2 2).A (p2 2).N (p2 2).C]) 2 1,.c (some 39) (cN W7.heap.size wh),.n 8 #[.slice none 0 0] 26,.p 1006 0 [.slice (p8 5).A (p8 5).N (p8 5).C]]) (fun p8=>[(0,.pointer (some ⟨p,0,none⟩)),(4,pT (p1 1).N 0),(5,.int .i64 0),(6,pT (p2 3).N 0),(7,.bool t),(8,pT (p8 6).N 0)]) (fun p8=>?_) (fun p8 W8 T hF hK=>?_)
 ·iterate 2 refine okv ?_
  refine okl ?_
  refine okv ?_
  refine okl ?_
  refine okc (fun W cx=>as_n cx.hb (unhide H1 _ _ _ (p2 2).C' _ _ (p2 2).C ⟨_,_,cx.B 0 _ rfl (by kernel_rfl) (by kernel_rfl),hp0⟩ (Mine.num cx.G.2.1) (Mine.num cx.G.1))) ?_
  refine okn ?_
  refine okp ?_
  exact ok_nil
 replace hS:=SymF.fc hS hF [0,1,2,1006] [⟨p,cs9,t9_,false⟩,⟨(p1 1).N,#[.bool false,.slice none 0 0,.slice none 0 0],28,true⟩,⟨(p2 3).N,#[.slice (p2 2).A' (p2 2).N' (p2 2).C',.slice (p2 2).A (p2 2).N (p2 2).C,.slice (p2 2).A3 (p2 2).N3 (p2 2).C3,.slice (p2 2).A2 (p2 2).N2 (p2 2).C2,.slice (p2 2).A4 (p2 2).N4 (p2 2).C4,.bool b],147,true⟩,⟨(p8 6).N,#[.slice (p8 5).A (p8 5).N (p8 5).C],26,true⟩]
 replace hG:GsAt (gM W7.heap.size (p8 5).A (p8 5).N (p8 5).C wh :: _) W8:=⟨hF.fx 5,hF.gx⟩
 clear hF
 refine wp_seq ?_
 refine wq hS hG hK (fun p9=>[.v 40 (.pointer (some ⟨p,0,none⟩)),.v 41 (pT (p2 3).N 2),.l 42 (.agg #[.slice (p2 2).A3 (p2 2).N3 (p2 2).C3]) 2 2,.v 43 (pT (p2 3).N 3),.l 44 (.agg #[.slice (p2 2).A2 (p2 2).N2 (p2 2).C2]) 2 3,.c (some 45) (cV (.int .i64 r)),.v 46 (.bool false)]) (fun p9=>[(0,.pointer (some ⟨p,0,none⟩)),(4,pT (p1 1).N 0),(5,.int .i64 0),(6,pT (p2 3).N 0),(7,.bool t),(8,pT (p8 6).N 0),(46,.bool false)]) (fun p9=>?_) (fun p9 W9 T hF hK=>?_)
 ·iterate 2 refine okv ?_
  refine okl ?_
  refine okv ?_
  refine okl ?_
  refine okc (fun W cx=>as_v (unhide HC _ _ _ (p2 2).C3 _ _ (p2 2).C2 ⟨_,_,cx.B 0 _ rfl (by kernel_rfl) (by kernel_rfl),hp0⟩ (Mine.num cx.G.2.2.2.2.1) (Mine.num cx.G.2.2.2.1))) ?_
  refine okvb (decide_eq_false (show ¬ r < 0 by omega)) ?_
  exact ok_nil
 obtain ⟨hS,hG⟩:=SymF.fg hS hF
 clear hF
 have z9:=hS.fr.size
 refine wp_cond_false (hK.ew 46) (wp_skip (then_n ?_))
 refine wq hS hG hK (fun p10=>[.v 64 (.pointer (some ⟨p,0,none⟩)),.v 65 (.pointer (some ⟨p,0,none⟩)),.l 66 (.agg #[.slice (p8 5).A (p8 5).N (p8 5).C]) 3 0,.v 67 (pT (p2 3).N 4),.l 68 (.agg #[.slice (p2 2).A4 (p2 2).N4 (p2 2).C4]) 2 4,.c (some 69) (cN W9.heap.size x),.v 70 (.pointer (some ⟨p,0,none⟩)),.v 71 (pT (p2 3).N 2),.l 72 (.agg #[.slice (p2 2).A3 (p2 2).N3 (p2 2).C3]) 2 2,.v 73 (pT (p2 3).N 3),.l 74 (.agg #[.slice (p2 2).A2 (p2 2).N2 (p2 2).C2]) 2 3,.c (some 75) (cN W9.heap.size y),.c (some 76) (cN W9.heap.size z),.n 9 #[.slice none 0 0] 26,.p 1013 0 [.slice (p10 12).A (p10 12).N (p10 12).C]]) (fun p10=>[(0,.pointer (some ⟨p,0,none⟩)),(4,pT (p1 1).N 0),(5,.int .i64 0),(6,pT (p2 3).N 0),(7,.bool t),(8,pT (p8 6).N 0),(9,pT (p10 13).N 0)]) (fun p10=>?_) (fun p10 W10 T hF hK=>?_)
 ·iterate 2 refine okv ?_
  refine okl ?_
  refine okv ?_
  refine okl ?_
  refine okc (fun W cx=>as_n cx.hb (unhide H5 _ _ _ (p8 5).C _ _ (p2 2).C4 ⟨_,_,cx.B 0 _ rfl (by kernel_rfl) (by kernel_rfl),hp0⟩ (Mine.num cx.G.1) (Mine.num cx.G.2.2.2.2.2.1))) ?_
  iterate 2 refine okv ?_
  refine okl ?_
  refine okv ?_
  refine okl ?_
  refine okc (fun W cx=>as_n cx.hb (unhide H6 _ _ _ (p2 2).C3 _ _ (p2 2).C2 ⟨_,_,cx.B 0 _ rfl (by kernel_rfl) (by kernel_rfl),hp0⟩ (Mine.num cx.G.2.2.2.2.1) (Mine.num cx.G.2.2.2.1))) ?_
  refine okc (fun W cx=>as_n cx.hb (unhide H7 _ _ _ (p10 5).C _ _ (p10 11).C ⟨_,_,cx.B 0 _ rfl (by kernel_rfl) (by kernel_rfl),hp0⟩ (Mine.num (cx.F 5 (by kernel_rfl))) (Mine.num (cx.F 11 (by kernel_rfl))))) ?_
  refine okn ?_
  refine okp ?_
  exact ok_nil
 replace hS:=SymF.fc hS hF [0,1,2,3,1013] [⟨p,cs9,t9_,false⟩,⟨(p1 1).N,#[.bool false,.slice none 0 0,.slice none 0 0],28,true⟩,⟨(p2 3).N,#[.slice (p2 2).A' (p2 2).N' (p2 2).C',.slice (p2 2).A (p2 2).N (p2 2).C,.slice (p2 2).A3 (p2 2).N3 (p2 2).C3,.slice (p2 2).A2 (p2 2).N2 (p2 2).C2,.slice (p2 2).A4 (p2 2).N4 (p2 2).C4,.bool b],147,true⟩,⟨(p8 6).N,#[.slice (p8 5).A (p8 5).N (p8 5).C],26,true⟩,⟨(p10 13).N,#[.slice (p10 12).A (p10 12).N (p10 12).C],26,true⟩]
 replace hG:GsAt (gM W9.heap.size (p10 5).A (p10 5).N (p10 5).C x :: gM W9.heap.size (p10 11).A (p10 11).N (p10 11).C y :: gM W9.heap.size (p10 12).A (p10 12).N (p10 12).C z :: _) W10:=⟨hF.fx 5,hF.fx 11,hF.fx 12,hF.gx⟩
 clear hF
 refine wq hS hG hK (fun p11=>[.v 77 (.pointer (some ⟨p,0,none⟩)),.v 78 (.bool t),.l 79 (.agg #[.slice (p10 12).A (p10 12).N (p10 12).C]) 4 0,.v 80 (pT (p2 3).N 4),.l 81 (.agg #[.slice (p2 2).A4 (p2 2).N4 (p2 2).C4]) 2 4,.c (some 82) (cV (.tuple #[.agg #[.bool g,.slice (p10 12).A (p10 12).N (p10 12).C,.slice (p2 2).A4 (p2 2).N4 (p2 2).C4],.int .i64 0])),.v 83 (.agg #[.bool g,.slice (p10 12).A (p10 12).N (p10 12).C,.slice (p2 2).A4 (p2 2).N4 (p2 2).C4]),.v 84 (.int .i64 0),.p 1 0 [.bool g,.slice (p10 12).A (p10 12).N (p10 12).C,.slice (p2 2).A4 (p2 2).N4 (p2 2).C4],.v 5 (.int .i64 0)]) (fun p11=>[(0,.pointer (some ⟨p,0,none⟩)),(4,pT (p1 1).N 0),(5,.int .i64 0),(6,pT (p2 3).N 0),(8,pT (p8 6).N 0)]) (fun p11=>?_) (fun p11 W11 T hF hK=>?_)
 ·iterate 2 refine okv ?_
  refine okl ?_
  refine okv ?_
  refine okl ?_
  refine okc (fun W cx=>as_v (unhide HF _ _ _ (p10 12).C _ _ (p2 2).C4 ⟨_,_,cx.B 0 _ rfl (by kernel_rfl) (by kernel_rfl),hp0⟩ (Mine.num cx.G.2.2.1) (Mine.num cx.G.2.2.2.2.2.2.2.2.1))) ?_
  iterate 2 refine okv ?_
  refine okp ?_
  refine okv ?_
  exact ok_nil
 replace hS:=SymF.fc hS hF [0,1,2,3] [⟨p,cs9,t9_,false⟩,⟨(p1 1).N,#[.bool g,.slice (p10 12).A (p10 12).N (p10 12).C,.slice (p2 2).A4 (p2 2).N4 (p2 2).C4],28,true⟩,⟨(p2 3).N,#[.slice (p2 2).A' (p2 2).N' (p2 2).C',.slice (p2 2).A (p2 2).N (p2 2).C,.slice (p2 2).A3 (p2 2).N3 (p2 2).C3,.slice (p2 2).A2 (p2 2).N2 (p2 2).C2,.slice (p2 2).A4 (p2 2).N4 (p2 2).C4,.bool b],147,true⟩,⟨(p8 6).N,#[.slice (p8 5).A (p8 5).N (p8 5).C],26,true⟩]
 replace hG:=hF.gx
 clear hF
 refine wp_ret ?_
 exact sym_end hS hK (.tuple #[.agg #[.bool g,.slice (p10 12).A (p10 12).N (p10 12).C,.slice (p2 2).A4 (p2 2).N4 (p2 2).C4],.int .i64 0]) [(1,0,3)] [.bool g,.slice (p10 12).A (p10 12).N (p10 12).C,.slice (p2 2).A4 (p2 2).N4 (p2 2).C4] (by kernel_rfl) (by kernel_rfl) ⟨⟨_,_,_,_,_,_,rfl,Mine.mono hG.2.2.1 z9,Mine.mono hG.2.2.2.2.2.2.2.2.1 z1⟩,hS.fr⟩
theorem zapa_fl (w:World) (p:Nat) (a1 a2 a3 a4:Option Addr) (n1 n2 n3 n4 c1 c2 c3 c4 m1 d1 m2 d2:Nat) (s t b g:Bool) (wa wb pa pb dn wh wi u v x y z:Nat) (r:Int) (hR:Rz w p 0) (h1:Num w a1 n1 m1) (h2:Num w a2 n2 d1) (h3:Num w a3 n3 m2) (h4:Num w a4 n4 d2) (HS:Hid (WSpl p s t m1 d1 m2 d2 wa wb pa pb dn b)) (HB:Hid (WBel p wa wb pa pb false)) (H1:Hid (WTwo 116 p wa wb wh)) (HC:Hid (WCmp p pa pb r)) (hr:r < 0) (H2:Hid (WTwo 116 p wh 1 wi)) (H3:Hid (WTwo 116 p dn pb u)) (H4:Hid (WTwo 114 p u pa v)) (H5:Hid (WTwo 89 p wi dn x)) (H6:Hid (WTwo 116 p v 0 y)) (H7:Hid (WTwo 114 p x y z)) (HF:Hid (WFr p s z dn g))  :
  Calls Tryz.prog 88 #[.pointer (some ⟨p,0,none⟩),.agg #[.bool s,.slice a1 n1 c1,.slice a2 n2 c2,.bool t,.slice a3 n3 c3,.slice a4 n4 c4]] w fun en w'=>(∃ A N C A' N' C',en = .returned (.tuple #[.agg #[.bool g,.slice A N C,.slice A' N' C'],.int .i64 0])∧Mine w' w.heap.size A N C z∧Mine w' w.heap.size A' N' C' dn)∧Below w.heap.size w w':=by
 obtain ⟨cs9,t9_,hp,hp0⟩:=hR
 refine calls_sym Tryz.func88 rfl (by kernel_rfl) fun T hK=>?_
 replace hK:Kn T _ [(0,.pointer (some ⟨p,0,none⟩)),(1,.agg #[.bool s,.slice a1 n1 c1,.slice a2 n2 c2,.bool t,.slice a3 n3 c3,.slice a4 n4 c4])]:=hK
 have hS:=Fb.other hp
 have hG:GsAt [gN a1 n1 m1,gN a2 n2 d1,gN a3 n3 m2,gN a4 n4 d2] w:=⟨h1,h2,h3,h4,trivial⟩
 refine wq hS hG hK (fun p1=>[.n 3 #[.bool s,.slice a1 n1 c1,.slice a2 n2 c2,.bool t,.slice a3 n3 c3,.slice a4 n4 c4] 86,.n 4 #[.bool false,.slice none 0 0,.slice none 0 0] 28,.v 5 (.int .i64 0)]) (fun p1=>[(0,.pointer (some ⟨p,0,none⟩)),(3,pT (p1 0).N 0),(4,pT (p1 1).N 0),(5,.int .i64 0)]) (fun p1=>?_) (fun p1 W1 T hF hK=>?_)
 ·iterate 2 refine okn ?_
  refine okv ?_
  exact ok_nil
 replace hS:=SymF.fc hS hF [0,1000,1001] [⟨p,cs9,t9_,false⟩,⟨(p1 0).N,#[.bool s,.slice a1 n1 c1,.slice a2 n2 c2,.bool t,.slice a3 n3 c3,.slice a4 n4 c4],86,true⟩,⟨(p1 1).N,#[.bool false,.slice none 0 0,.slice none 0 0],28,true⟩]
 replace hG:=hF.gx
 clear hF
 have z1:=hS.fr.size
 refine wq hS hG hK (fun p2=>[.v 10 (.pointer (some ⟨p,0,none⟩)),.l 11 (.agg #[.bool s,.slice a1 n1 c1,.slice a2 n2 c2,.bool t,.slice a3 n3 c3,.slice a4 n4 c4]) 1 0,.c (some 12) (c5 W1.heap.size wa wb pa pb dn b),.n 6 #[.slice none 0 0,.slice none 0 0,.slice none 0 0,.slice none 0 0,.slice none 0 0,.bool false] 147,.p 1003 0 [.slice (p2 2).A (p2 2).N (p2 2).C,.slice (p2 2).A' (p2 2).N' (p2 2).C',.slice (p2 2).A2 (p2 2).N2 (p2 2).C2,.slice (p2 2).A3 (p2 2).N3 (p2 2).C3,.slice (p2 2).A4 (p2 2).N4 (p2 2).C4,.bool b]]) (fun p2=>[(0,.pointer (some ⟨p,0,none⟩)),(3,pT (p1 0).N 0),(4,pT (p1 1).N 0),(5,.int .i64 0),(6,pT (p2 3).N 0)]) (fun p2=>?_) (fun p2 W2 T hF hK=>?_)
 ·refine okv ?_
  refine okl ?_
  refine okc (fun W cx=>as_5 cx.hb (unhide HS _ _ _ c1 _ _ c2 _ _ c3 _ _ c4 ⟨_,_,cx.B 0 _ rfl (by kernel_rfl) (by kernel_rfl),hp0⟩ (cx.G.1) (cx.G.2.1) (cx.G.2.2.1) (cx.G.2.2.2.1))) ?_
  refine okn ?_
  refine okp ?_
  exact ok_nil
 replace hS:=SymF.fc hS hF [0,1,2,1003] [⟨p,cs9,t9_,false⟩,⟨(p1 0).N,#[.bool s,.slice a1 n1 c1,.slice a2 n2 c2,.bool t,.slice a3 n3 c3,.slice a4 n4 c4],86,true⟩,⟨(p1 1).N,#[.bool false,.slice none 0 0,.slice none 0 0],28,true⟩,⟨(p2 3).N,#[.slice (p2 2).A (p2 2).N (p2 2).C,.slice (p2 2).A' (p2 2).N' (p2 2).C',.slice (p2 2).A2 (p2 2).N2 (p2 2).C2,.slice (p2 2).A3 (p2 2).N3 (p2 2).C3,.slice (p2 2).A4 (p2 2).N4 (p2 2).C4,.bool b],147,true⟩]
 replace hG:GsAt (gM W1.heap.size (p2 2).A (p2 2).N (p2 2).C wa :: gM W1.heap.size (p2 2).A' (p2 2).N' (p2 2).C' wb :: gM W1.heap.size (p2 2).A2 (p2 2).N2 (p2 2).C2 pa :: gM W1.heap.size (p2 2).A3 (p2 2).N3 (p2 2).C3 pb :: gM W1.heap.size (p2 2).A4 (p2 2).N4 (p2 2).C4 dn :: _) W2:=⟨(hF.fx 2).1,(hF.fx 2).2.1,(hF.fx 2).2.2.1,(hF.fx 2).2.2.2.1,(hF.fx 2).2.2.2.2,hF.gx⟩
 clear hF
 refine wq hS hG hK (fun p3=>[.v 13 (pT (p1 0).N 0),.v 14 (pT (p1 0).N 0),.l 15 (.bool s) 1 0,.v 7 (.bool s)]) (fun p3=>[(0,.pointer (some ⟨p,0,none⟩)),(3,pT (p1 0).N 0),(4,pT (p1 1).N 0),(5,.int .i64 0),(6,pT (p2 3).N 0),(7,.bool s)]) (fun p3=>?_) (fun p3 W3 T hF hK=>?_)
 ·iterate 2 refine okv ?_
  refine okl ?_
  refine okv ?_
  exact ok_nil
 obtain ⟨hS,hG⟩:=SymF.fg hS hF
 clear hF
 refine wp_seq ?_
 refine wq hS hG hK (fun p4=>[.l 16 (.agg #[.slice (p2 2).A (p2 2).N (p2 2).C,.slice (p2 2).A' (p2 2).N' (p2 2).C',.slice (p2 2).A2 (p2 2).N2 (p2 2).C2,.slice (p2 2).A3 (p2 2).N3 (p2 2).C3,.slice (p2 2).A4 (p2 2).N4 (p2 2).C4,.bool b]) 3 0,.v 17 (.pointer (some ⟨p,0,none⟩)),.c (some 18) (cV (.bool false))]) (fun p4=>[(0,.pointer (some ⟨p,0,none⟩)),(3,pT (p1 0).N 0),(4,pT (p1 1).N 0),(5,.int .i64 0),(6,pT (p2 3).N 0),(7,.bool s),(18,.bool false)]) (fun p4=>?_) (fun p4 W4 T hF hK=>?_)
 ·refine okl ?_
  refine okv ?_
  refine okc (fun W cx=>as_v (unhide HB _ (p2 2).A (p2 2).N (p2 2).C (p2 2).A' (p2 2).N' (p2 2).C' (p2 2).A2 (p2 2).N2 (p2 2).C2 (p2 2).A3 (p2 2).N3 (p2 2).C3 (p2 2).A4 (p2 2).N4 (p2 2).C4 b ⟨_,_,cx.B 0 _ rfl (by kernel_rfl) (by kernel_rfl),hp0⟩ (Mine.num cx.G.1) (Mine.num cx.G.2.1) (Mine.num cx.G.2.2.1) (Mine.num cx.G.2.2.2.1))) ?_
  exact ok_nil
 obtain ⟨hS,hG⟩:=SymF.fg hS hF
 clear hF
 refine wp_cond_false (hK.ew 18) (wp_skip (then_n ?_))
 refine wq hS hG hK (fun p5=>[.v 34 (.pointer (some ⟨p,0,none⟩)),.v 35 (pT (p2 3).N 0),.l 36 (.agg #[.slice (p2 2).A (p2 2).N (p2 2).C]) 3 0,.v 37 (pT (p2 3).N 1),.l 38 (.agg #[.slice (p2 2).A' (p2 2).N' (p2 2).C']) 3 1,.c (some 39) (cN W4.heap.size wh),.n 8 #[.slice none 0 0] 26,.p 1006 0 [.slice (p5 5).A (p5 5).N (p5 5).C]]) (fun p5=>[(0,.pointer (some ⟨p,0,none⟩)),(3,pT (p1 0).N 0),(4,pT (p1 1).N 0),(5,.int .i64 0),(6,pT (p2 3).N 0),(7,.bool s),(8,pT (p5 6).N 0)]) (fun p5=>?_) (fun p5 W5 T hF hK=>?_)
 ·iterate 2 refine okv ?_
  refine okl ?_
  refine okv ?_
  refine okl ?_
  refine okc (fun W cx=>as_n cx.hb (unhide H1 _ _ _ (p2 2).C _ _ (p2 2).C' ⟨_,_,cx.B 0 _ rfl (by kernel_rfl) (by kernel_rfl),hp0⟩ (Mine.num cx.G.1) (Mine.num cx.G.2.1))) ?_
  refine okn ?_
  refine okp ?_
  exact ok_nil
 replace hS:=SymF.fc hS hF [0,1,2,3,1006] [⟨p,cs9,t9_,false⟩,⟨(p1 0).N,#[.bool s,.slice a1 n1 c1,.slice a2 n2 c2,.bool t,.slice a3 n3 c3,.slice a4 n4 c4],86,true⟩,⟨(p1 1).N,#[.bool false,.slice none 0 0,.slice none 0 0],28,true⟩,⟨(p2 3).N,#[.slice (p2 2).A (p2 2).N (p2 2).C,.slice (p2 2).A' (p2 2).N' (p2 2).C',.slice (p2 2).A2 (p2 2).N2 (p2 2).C2,.slice (p2 2).A3 (p2 2).N3 (p2 2).C3,.slice (p2 2).A4 (p2 2).N4 (p2 2).C4,.bool b],147,true⟩,⟨(p5 6).N,#[.slice (p5 5).A (p5 5).N (p5 5).C],26,true⟩]
 replace hG:GsAt (gM W4.heap.size (p5 5).A (p5 5).N (p5 5).C wh :: _) W5:=⟨hF.fx 5,hF.gx⟩
 clear hF
 refine wp_seq ?_
 refine wq hS hG hK (fun p6=>[.v 40 (.pointer (some ⟨p,0,none⟩)),.v 41 (pT (p2 3).N 2),.l 42 (.agg #[.slice (p2 2).A2 (p2 2).N2 (p2 2).C2]) 3 2,.v 43 (pT (p2 3).N 3),.l 44 (.agg #[.slice (p2 2).A3 (p2 2).N3 (p2 2).C3]) 3 3,.c (some 45) (cV (.int .i64 r)),.v 46 (.bool true)]) (fun p6=>[(0,.pointer (some ⟨p,0,none⟩)),(3,pT (p1 0).N 0),(4,pT (p1 1).N 0),(5,.int .i64 0),(6,pT (p2 3).N 0),(7,.bool s),(8,pT (p5 6).N 0),(46,.bool true)]) (fun p6=>?_) (fun p6 W6 T hF hK=>?_)
 ·iterate 2 refine okv ?_
  refine okl ?_
  refine okv ?_
  refine okl ?_
  refine okc (fun W cx=>as_v (unhide HC _ _ _ (p2 2).C2 _ _ (p2 2).C3 ⟨_,_,cx.B 0 _ rfl (by kernel_rfl) (by kernel_rfl),hp0⟩ (Mine.num cx.G.2.2.2.1) (Mine.num cx.G.2.2.2.2.1))) ?_
  refine okvb (decide_eq_true (show r < 0 by omega)) ?_
  exact ok_nil
 obtain ⟨hS,hG⟩:=SymF.fg hS hF
 clear hF
 refine wp_cond_true (hK.ew 46) ?_
 refine wq hS hG hK (fun p7=>[.v 47 (.pointer (some ⟨p,0,none⟩)),.l 48 (.agg #[.slice (p5 5).A (p5 5).N (p5 5).C]) 4 0,.c (some 49) (cN W6.heap.size 1),.c (some 50) (cN W6.heap.size wi),.p 4 0 [.slice (p7 3).A (p7 3).N (p7 3).C]]) (fun p7=>[(0,.pointer (some ⟨p,0,none⟩)),(3,pT (p1 0).N 0),(4,pT (p1 1).N 0),(5,.int .i64 0),(6,pT (p2 3).N 0),(7,.bool s),(8,pT (p5 6).N 0)]) (fun p7=>?_) (fun p7 W7 T hF hK=>?_)
 ·refine okv ?_
  refine okl ?_
  refine okc (fun W cx=>as_n cx.hb (of_any 1 _ (by decide))) ?_
  refine okc (fun W cx=>as_n cx.hb (unhide H2 _ _ _ (p5 5).C _ _ (p7 2).C ⟨_,_,cx.B 0 _ rfl (by kernel_rfl) (by kernel_rfl),hp0⟩ (Mine.num cx.G.1) (Mine.num (cx.F 2 (by kernel_rfl))))) ?_
  refine okp ?_
  exact ok_nil
 replace hS:=SymF.fc hS hF [0,1,2,3,4] [⟨p,cs9,t9_,false⟩,⟨(p1 0).N,#[.bool s,.slice a1 n1 c1,.slice a2 n2 c2,.bool t,.slice a3 n3 c3,.slice a4 n4 c4],86,true⟩,⟨(p1 1).N,#[.bool false,.slice none 0 0,.slice none 0 0],28,true⟩,⟨(p2 3).N,#[.slice (p2 2).A (p2 2).N (p2 2).C,.slice (p2 2).A' (p2 2).N' (p2 2).C',.slice (p2 2).A2 (p2 2).N2 (p2 2).C2,.slice (p2 2).A3 (p2 2).N3 (p2 2).C3,.slice (p2 2).A4 (p2 2).N4 (p2 2).C4,.bool b],147,true⟩,⟨(p5 6).N,#[.slice (p7 3).A (p7 3).N (p7 3).C],26,true⟩]
 replace hG:GsAt (gM W6.heap.size (p7 2).A (p7 2).N (p7 2).C 1 :: gM W6.heap.size (p7 3).A (p7 3).N (p7 3).C wi :: _) W7:=⟨hF.fx 2,hF.fx 3,hF.gx⟩
 clear hF
 refine wq hS hG hK (fun p8=>[.v 51 (.pointer (some ⟨p,0,none⟩)),.v 52 (.pointer (some ⟨p,0,none⟩)),.v 53 (pT (p2 3).N 4),.l 54 (.agg #[.slice (p2 2).A4 (p2 2).N4 (p2 2).C4]) 3 4,.v 55 (pT (p2 3).N 3),.l 56 (.agg #[.slice (p2 2).A3 (p2 2).N3 (p2 2).C3]) 3 3,.c (some 57) (cN W7.heap.size u),.v 58 (pT (p2 3).N 2),.l 59 (.agg #[.slice (p2 2).A2 (p2 2).N2 (p2 2).C2]) 3 2,.c (some 60) (cN W7.heap.size v),.v 61 (pT (p2 3).N 2),.p 3 2 [.slice (p8 9).A (p8 9).N (p8 9).C]]) (fun p8=>[(0,.pointer (some ⟨p,0,none⟩)),(3,pT (p1 0).N 0),(4,pT (p1 1).N 0),(5,.int .i64 0),(6,pT (p2 3).N 0),(7,.bool s),(8,pT (p5 6).N 0)]) (fun p8=>?_) (fun p8 W8 T hF hK=>?_)
 ·iterate 3 refine okv ?_
  refine okl ?_
  refine okv ?_
  refine okl ?_
  refine okc (fun W cx=>as_n cx.hb (unhide H3 _ _ _ (p2 2).C4 _ _ (p2 2).C3 ⟨_,_,cx.B 0 _ rfl (by kernel_rfl) (by kernel_rfl),hp0⟩ (Mine.num cx.G.2.2.2.2.2.2.2.1) (Mine.num cx.G.2.2.2.2.2.2.1))) ?_
  refine okv ?_
  refine okl ?_
  refine okc (fun W cx=>as_n cx.hb (unhide H4 _ _ _ (p8 6).C _ _ (p2 2).C2 ⟨_,_,cx.B 0 _ rfl (by kernel_rfl) (by kernel_rfl),hp0⟩ (Mine.num (cx.F 6 (by kernel_rfl))) (Mine.num cx.G.2.2.2.2.2.1))) ?_
  refine okv ?_
  refine okp ?_
  exact ok_nil
 replace hS:=SymF.fc hS hF [0,1,2,3,4] [⟨p,cs9,t9_,false⟩,⟨(p1 0).N,#[.bool s,.slice a1 n1 c1,.slice a2 n2 c2,.bool t,.slice a3 n3 c3,.slice a4 n4 c4],86,true⟩,⟨(p1 1).N,#[.bool false,.slice none 0 0,.slice none 0 0],28,true⟩,⟨(p2 3).N,#[.slice (p2 2).A (p2 2).N (p2 2).C,.slice (p2 2).A' (p2 2).N' (p2 2).C',.slice (p8 9).A (p8 9).N (p8 9).C,.slice (p2 2).A3 (p2 2).N3 (p2 2).C3,.slice (p2 2).A4 (p2 2).N4 (p2 2).C4,.bool b],147,true⟩,⟨(p5 6).N,#[.slice (p7 3).A (p7 3).N (p7 3).C],26,true⟩]
 replace hG:GsAt (gM W7.heap.size (p8 6).A (p8 6).N (p8 6).C u :: gM W7.heap.size (p8 9).A (p8 9).N (p8 9).C v :: _) W8:=⟨hF.fx 6,hF.fx 9,hF.gx⟩
 clear hF
 refine wg hS hG hK (fun p9=>[.v 62 (.agg #[.slice none 0 0]),.v 63 (pT (p2 3).N 3),.p 3 3 [.slice none 0 0]]) (fun p9=>[(0,.pointer (some ⟨p,0,none⟩)),(3,pT (p1 0).N 0),(4,pT (p1 1).N 0),(5,.int .i64 0),(6,pT (p2 3).N 0),(7,.bool s),(8,pT (p5 6).N 0)]) (fun p9=>?_) (fun p9 W9 T hF hK=>?_)
 ·iterate 2 refine okv ?_
  refine okp ?_
  exact ok_nil
 replace hS:=SymF.fc hS hF [0,1,2,3,4] [⟨p,cs9,t9_,false⟩,⟨(p1 0).N,#[.bool s,.slice a1 n1 c1,.slice a2 n2 c2,.bool t,.slice a3 n3 c3,.slice a4 n4 c4],86,true⟩,⟨(p1 1).N,#[.bool false,.slice none 0 0,.slice none 0 0],28,true⟩,⟨(p2 3).N,#[.slice (p2 2).A (p2 2).N (p2 2).C,.slice (p2 2).A' (p2 2).N' (p2 2).C',.slice (p8 9).A (p8 9).N (p8 9).C,.slice none 0 0,.slice (p2 2).A4 (p2 2).N4 (p2 2).C4,.bool b],147,true⟩,⟨(p5 6).N,#[.slice (p7 3).A (p7 3).N (p7 3).C],26,true⟩]
 replace hG:=hF.gx
 clear hF
 have z9:=hS.fr.size
 refine then_n ?_
 refine wq hS hG hK (fun p10=>[.v 64 (.pointer (some ⟨p,0,none⟩)),.v 65 (.pointer (some ⟨p,0,none⟩)),.l 66 (.agg #[.slice (p7 3).A (p7 3).N (p7 3).C]) 4 0,.v 67 (pT (p2 3).N 4),.l 68 (.agg #[.slice (p2 2).A4 (p2 2).N4 (p2 2).C4]) 3 4,.c (some 69) (cN W9.heap.size x),.v 70 (.pointer (some ⟨p,0,none⟩)),.v 71 (pT (p2 3).N 2),.l 72 (.agg #[.slice (p8 9).A (p8 9).N (p8 9).C]) 3 2,.v 73 (pT (p2 3).N 3),.l 74 (.agg #[.slice none 0 0]) 3 3,.c (some 75) (cN W9.heap.size y),.c (some 76) (cN W9.heap.size z),.n 9 #[.slice none 0 0] 26,.p 1013 0 [.slice (p10 12).A (p10 12).N (p10 12).C]]) (fun p10=>[(0,.pointer (some ⟨p,0,none⟩)),(3,pT (p1 0).N 0),(4,pT (p1 1).N 0),(5,.int .i64 0),(6,pT (p2 3).N 0),(7,.bool s),(9,pT (p10 13).N 0)]) (fun p10=>?_) (fun p10 W10 T hF hK=>?_)
 ·iterate 2 refine okv ?_
  refine okl ?_
  refine okv ?_
  refine okl ?_
  refine okc (fun W cx=>as_n cx.hb (unhide H5 _ _ _ (p7 3).C _ _ (p2 2).C4 ⟨_,_,cx.B 0 _ rfl (by kernel_rfl) (by kernel_rfl),hp0⟩ (Mine.num cx.G.2.2.2.1) (Mine.num cx.G.2.2.2.2.2.2.2.2.2.1))) ?_
  iterate 2 refine okv ?_
  refine okl ?_
  refine okv ?_
  refine okl ?_
  refine okc (fun W cx=>as_n cx.hb (unhide H6 _ _ _ (p8 9).C _ _ 0 ⟨_,_,cx.B 0 _ rfl (by kernel_rfl) (by kernel_rfl),hp0⟩ (Mine.num cx.G.2.1) (Num.znil _))) ?_
  refine okc (fun W cx=>as_n cx.hb (unhide H7 _ _ _ (p10 5).C _ _ (p10 11).C ⟨_,_,cx.B 0 _ rfl (by kernel_rfl) (by kernel_rfl),hp0⟩ (Mine.num (cx.F 5 (by kernel_rfl))) (Mine.num (cx.F 11 (by kernel_rfl))))) ?_
  refine okn ?_
  refine okp ?_
  exact ok_nil
 replace hS:=SymF.fc hS hF [0,1,2,3,1013] [⟨p,cs9,t9_,false⟩,⟨(p1 0).N,#[.bool s,.slice a1 n1 c1,.slice a2 n2 c2,.bool t,.slice a3 n3 c3,.slice a4 n4 c4],86,true⟩,⟨(p1 1).N,#[.bool false,.slice none 0 0,.slice none 0 0],28,true⟩,⟨(p2 3).N,#[.slice (p2 2).A (p2 2).N (p2 2).C,.slice (p2 2).A' (p2 2).N' (p2 2).C',.slice (p8 9).A (p8 9).N (p8 9).C,.slice none 0 0,.slice (p2 2).A4 (p2 2).N4 (p2 2).C4,.bool b],147,true⟩,⟨(p10 13).N,#[.slice (p10 12).A (p10 12).N (p10 12).C],26,true⟩]
 replace hG:GsAt (gM W9.heap.size (p10 5).A (p10 5).N (p10 5).C x :: gM W9.heap.size (p10 11).A (p10 11).N (p10 11).C y :: gM W9.heap.size (p10 12).A (p10 12).N (p10 12).C z :: _) W10:=⟨hF.fx 5,hF.fx 11,hF.fx 12,hF.gx⟩
 clear hF
 refine wq hS hG hK (fun p11=>[.v 77 (.pointer (some ⟨p,0,none⟩)),.v 78 (.bool s),.l 79 (.agg #[.slice (p10 12).A (p10 12).N (p10 12).C]) 4 0,.v 80 (pT (p2 3).N 4),.l 81 (.agg #[.slice (p2 2).A4 (p2 2).N4 (p2 2).C4]) 3 4,.c (some 82) (cV (.tuple #[.agg #[.bool g,.slice (p10 12).A (p10 12).N (p10 12).C,.slice (p2 2).A4 (p2 2).N4 (p2 2).C4],.int .i64 0])),.v 83 (.agg #[.bool g,.slice (p10 12).A (p10 12).N (p10 12).C,.slice (p2 2).A4 (p2 2).N4 (p2 2).C4]),.v 84 (.int .i64 0),.p 2 0 [.bool g,.slice (p10 12).A (p10 12).N (p10 12).C,.slice (p2 2).A4 (p2 2).N4 (p2 2).C4],.v 5 (.int .i64 0)]) (fun p11=>[(3,pT (p1 0).N 0),(4,pT (p1 1).N 0),(5,.int .i64 0),(6,pT (p2 3).N 0)]) (fun p11=>?_) (fun p11 W11 T hF hK=>?_)
 ·iterate 2 refine okv ?_
  refine okl ?_
  refine okv ?_
  refine okl ?_
  refine okc (fun W cx=>as_v (unhide HF _ _ _ (p10 12).C _ _ (p2 2).C4 ⟨_,_,cx.B 0 _ rfl (by kernel_rfl) (by kernel_rfl),hp0⟩ (Mine.num cx.G.2.2.1) (Mine.num cx.G.2.2.2.2.2.2.2.2.2.2.2.2.1))) ?_
  iterate 2 refine okv ?_
  refine okp ?_
  refine okv ?_
  exact ok_nil
 replace hS:=SymF.fc hS hF [0,1,2,3] [⟨p,cs9,t9_,false⟩,⟨(p1 0).N,#[.bool s,.slice a1 n1 c1,.slice a2 n2 c2,.bool t,.slice a3 n3 c3,.slice a4 n4 c4],86,true⟩,⟨(p1 1).N,#[.bool g,.slice (p10 12).A (p10 12).N (p10 12).C,.slice (p2 2).A4 (p2 2).N4 (p2 2).C4],28,true⟩,⟨(p2 3).N,#[.slice (p2 2).A (p2 2).N (p2 2).C,.slice (p2 2).A' (p2 2).N' (p2 2).C',.slice (p8 9).A (p8 9).N (p8 9).C,.slice none 0 0,.slice (p2 2).A4 (p2 2).N4 (p2 2).C4,.bool b],147,true⟩]
 replace hG:=hF.gx
 clear hF
 refine wp_ret ?_
 exact sym_end hS hK (.tuple #[.agg #[.bool g,.slice (p10 12).A (p10 12).N (p10 12).C,.slice (p2 2).A4 (p2 2).N4 (p2 2).C4],.int .i64 0]) [(2,0,3)] [.bool g,.slice (p10 12).A (p10 12).N (p10 12).C,.slice (p2 2).A4 (p2 2).N4 (p2 2).C4] (by kernel_rfl) (by kernel_rfl) ⟨⟨_,_,_,_,_,_,rfl,Mine.mono hG.2.2.1 z9,Mine.mono hG.2.2.2.2.2.2.2.2.2.2.2.2.1 z1⟩,hS.fr⟩
theorem zapa_fg (w:World) (p:Nat) (a1 a2 a3 a4:Option Addr) (n1 n2 n3 n4 c1 c2 c3 c4 m1 d1 m2 d2:Nat) (s t b g:Bool) (wa wb pa pb dn wh x y z:Nat) (r:Int) (hR:Rz w p 0) (h1:Num w a1 n1 m1) (h2:Num w a2 n2 d1) (h3:Num w a3 n3 m2) (h4:Num w a4 n4 d2) (HS:Hid (WSpl p s t m1 d1 m2 d2 wa wb pa pb dn b)) (HB:Hid (WBel p wa wb pa pb false)) (H1:Hid (WTwo 116 p wa wb wh)) (HC:Hid (WCmp p pa pb r)) (hr:0≤r) (H5:Hid (WTwo 89 p wh dn x)) (H6:Hid (WTwo 116 p pa pb y)) (H7:Hid (WTwo 114 p x y z)) (HF:Hid (WFr p s z dn g))  :
  Calls Tryz.prog 88 #[.pointer (some ⟨p,0,none⟩),.agg #[.bool s,.slice a1 n1 c1,.slice a2 n2 c2,.bool t,.slice a3 n3 c3,.slice a4 n4 c4]] w fun en w'=>(∃ A N C A' N' C',en = .returned (.tuple #[.agg #[.bool g,.slice A N C,.slice A' N' C'],.int .i64 0])∧Mine w' w.heap.size A N C z∧Mine w' w.heap.size A' N' C' dn)∧Below w.heap.size w w':=by
 obtain ⟨cs9,t9_,hp,hp0⟩:=hR
 refine calls_sym Tryz.func88 rfl (by kernel_rfl) fun T hK=>?_
 replace hK:Kn T _ [(0,.pointer (some ⟨p,0,none⟩)),(1,.agg #[.bool s,.slice a1 n1 c1,.slice a2 n2 c2,.bool t,.slice a3 n3 c3,.slice a4 n4 c4])]:=hK
 have hS:=Fb.other hp
 have hG:GsAt [gN a1 n1 m1,gN a2 n2 d1,gN a3 n3 m2,gN a4 n4 d2] w:=⟨h1,h2,h3,h4,trivial⟩
 refine wq hS hG hK (fun p1=>[.n 3 #[.bool s,.slice a1 n1 c1,.slice a2 n2 c2,.bool t,.slice a3 n3 c3,.slice a4 n4 c4] 86,.n 4 #[.bool false,.slice none 0 0,.slice none 0 0] 28,.v 5 (.int .i64 0)]) (fun p1=>[(0,.pointer (some ⟨p,0,none⟩)),(3,pT (p1 0).N 0),(4,pT (p1 1).N 0),(5,.int .i64 0)]) (fun p1=>?_) (fun p1 W1 T hF hK=>?_)
 ·iterate 2 refine okn ?_
  refine okv ?_
  exact ok_nil
 replace hS:=SymF.fc hS hF [0,1000,1001] [⟨p,cs9,t9_,false⟩,⟨(p1 0).N,#[.bool s,.slice a1 n1 c1,.slice a2 n2 c2,.bool t,.slice a3 n3 c3,.slice a4 n4 c4],86,true⟩,⟨(p1 1).N,#[.bool false,.slice none 0 0,.slice none 0 0],28,true⟩]
 replace hG:=hF.gx
 clear hF
 have z1:=hS.fr.size
 refine wq hS hG hK (fun p2=>[.v 10 (.pointer (some ⟨p,0,none⟩)),.l 11 (.agg #[.bool s,.slice a1 n1 c1,.slice a2 n2 c2,.bool t,.slice a3 n3 c3,.slice a4 n4 c4]) 1 0,.c (some 12) (c5 W1.heap.size wa wb pa pb dn b),.n 6 #[.slice none 0 0,.slice none 0 0,.slice none 0 0,.slice none 0 0,.slice none 0 0,.bool false] 147,.p 1003 0 [.slice (p2 2).A (p2 2).N (p2 2).C,.slice (p2 2).A' (p2 2).N' (p2 2).C',.slice (p2 2).A2 (p2 2).N2 (p2 2).C2,.slice (p2 2).A3 (p2 2).N3 (p2 2).C3,.slice (p2 2).A4 (p2 2).N4 (p2 2).C4,.bool b]]) (fun p2=>[(0,.pointer (some ⟨p,0,none⟩)),(3,pT (p1 0).N 0),(4,pT (p1 1).N 0),(5,.int .i64 0),(6,pT (p2 3).N 0)]) (fun p2=>?_) (fun p2 W2 T hF hK=>?_)
 ·refine okv ?_
  refine okl ?_
  refine okc (fun W cx=>as_5 cx.hb (unhide HS _ _ _ c1 _ _ c2 _ _ c3 _ _ c4 ⟨_,_,cx.B 0 _ rfl (by kernel_rfl) (by kernel_rfl),hp0⟩ (cx.G.1) (cx.G.2.1) (cx.G.2.2.1) (cx.G.2.2.2.1))) ?_
  refine okn ?_
  refine okp ?_
  exact ok_nil
 replace hS:=SymF.fc hS hF [0,1,2,1003] [⟨p,cs9,t9_,false⟩,⟨(p1 0).N,#[.bool s,.slice a1 n1 c1,.slice a2 n2 c2,.bool t,.slice a3 n3 c3,.slice a4 n4 c4],86,true⟩,⟨(p1 1).N,#[.bool false,.slice none 0 0,.slice none 0 0],28,true⟩,⟨(p2 3).N,#[.slice (p2 2).A (p2 2).N (p2 2).C,.slice (p2 2).A' (p2 2).N' (p2 2).C',.slice (p2 2).A2 (p2 2).N2 (p2 2).C2,.slice (p2 2).A3 (p2 2).N3 (p2 2).C3,.slice (p2 2).A4 (p2 2).N4 (p2 2).C4,.bool b],147,true⟩]
 replace hG:GsAt (gM W1.heap.size (p2 2).A (p2 2).N (p2 2).C wa :: gM W1.heap.size (p2 2).A' (p2 2).N' (p2 2).C' wb :: gM W1.heap.size (p2 2).A2 (p2 2).N2 (p2 2).C2 pa :: gM W1.heap.size (p2 2).A3 (p2 2).N3 (p2 2).C3 pb :: gM W1.heap.size (p2 2).A4 (p2 2).N4 (p2 2).C4 dn :: _) W2:=⟨(hF.fx 2).1,(hF.fx 2).2.1,(hF.fx 2).2.2.1,(hF.fx 2).2.2.2.1,(hF.fx 2).2.2.2.2,hF.gx⟩
 clear hF
 refine wq hS hG hK (fun p3=>[.v 13 (pT (p1 0).N 0),.v 14 (pT (p1 0).N 0),.l 15 (.bool s) 1 0,.v 7 (.bool s)]) (fun p3=>[(0,.pointer (some ⟨p,0,none⟩)),(3,pT (p1 0).N 0),(4,pT (p1 1).N 0),(5,.int .i64 0),(6,pT (p2 3).N 0),(7,.bool s)]) (fun p3=>?_) (fun p3 W3 T hF hK=>?_)
 ·iterate 2 refine okv ?_
  refine okl ?_
  refine okv ?_
  exact ok_nil
 obtain ⟨hS,hG⟩:=SymF.fg hS hF
 clear hF
 refine wp_seq ?_
 refine wq hS hG hK (fun p4=>[.l 16 (.agg #[.slice (p2 2).A (p2 2).N (p2 2).C,.slice (p2 2).A' (p2 2).N' (p2 2).C',.slice (p2 2).A2 (p2 2).N2 (p2 2).C2,.slice (p2 2).A3 (p2 2).N3 (p2 2).C3,.slice (p2 2).A4 (p2 2).N4 (p2 2).C4,.bool b]) 3 0,.v 17 (.pointer (some ⟨p,0,none⟩)),.c (some 18) (cV (.bool false))]) (fun p4=>[(0,.pointer (some ⟨p,0,none⟩)),(3,pT (p1 0).N 0),(4,pT (p1 1).N 0),(5,.int .i64 0),(6,pT (p2 3).N 0),(7,.bool s),(18,.bool false)]) (fun p4=>?_) (fun p4 W4 T hF hK=>?_)
 ·refine okl ?_
  refine okv ?_
  refine okc (fun W cx=>as_v (unhide HB _ (p2 2).A (p2 2).N (p2 2).C (p2 2).A' (p2 2).N' (p2 2).C' (p2 2).A2 (p2 2).N2 (p2 2).C2 (p2 2).A3 (p2 2).N3 (p2 2).C3 (p2 2).A4 (p2 2).N4 (p2 2).C4 b ⟨_,_,cx.B 0 _ rfl (by kernel_rfl) (by kernel_rfl),hp0⟩ (Mine.num cx.G.1) (Mine.num cx.G.2.1) (Mine.num cx.G.2.2.1) (Mine.num cx.G.2.2.2.1))) ?_
  exact ok_nil
 obtain ⟨hS,hG⟩:=SymF.fg hS hF
 clear hF
 refine wp_cond_false (hK.ew 18) (wp_skip (then_n ?_))
 refine wq hS hG hK (fun p5=>[.v 34 (.pointer (some ⟨p,0,none⟩)),.v 35 (pT (p2 3).N 0),.l 36 (.agg #[.slice (p2 2).A (p2 2).N (p2 2).C]) 3 0,.v 37 (pT (p2 3).N 1),.l 38 (.agg #[.slice (p2 2).A' (p2 2).N' (p2 2).C']) 3 1,.c (some 39) (cN W4.heap.size wh),.n 8 #[.slice none 0 0] 26,.p 1006 0 [.slice (p5 5).A (p5 5).N (p5 5).C]]) (fun p5=>[(0,.pointer (some ⟨p,0,none⟩)),(3,pT (p1 0).N 0),(4,pT (p1 1).N 0),(5,.int .i64 0),(6,pT (p2 3).N 0),(7,.bool s),(8,pT (p5 6).N 0)]) (fun p5=>?_) (fun p5 W5 T hF hK=>?_)
 ·iterate 2 refine okv ?_
  refine okl ?_
  refine okv ?_
  refine okl ?_
  refine okc (fun W cx=>as_n cx.hb (unhide H1 _ _ _ (p2 2).C _ _ (p2 2).C' ⟨_,_,cx.B 0 _ rfl (by kernel_rfl) (by kernel_rfl),hp0⟩ (Mine.num cx.G.1) (Mine.num cx.G.2.1))) ?_
  refine okn ?_
  refine okp ?_
  exact ok_nil
 replace hS:=SymF.fc hS hF [0,1,2,3,1006] [⟨p,cs9,t9_,false⟩,⟨(p1 0).N,#[.bool s,.slice a1 n1 c1,.slice a2 n2 c2,.bool t,.slice a3 n3 c3,.slice a4 n4 c4],86,true⟩,⟨(p1 1).N,#[.bool false,.slice none 0 0,.slice none 0 0],28,true⟩,⟨(p2 3).N,#[.slice (p2 2).A (p2 2).N (p2 2).C,.slice (p2 2).A' (p2 2).N' (p2 2).C',.slice (p2 2).A2 (p2 2).N2 (p2 2).C2,.slice (p2 2).A3 (p2 2).N3 (p2 2).C3,.slice (p2 2).A4 (p2 2).N4 (p2 2).C4,.bool b],147,true⟩,⟨(p5 6).N,#[.slice (p5 5).A (p5 5).N (p5 5).C],26,true⟩]
 replace hG:GsAt (gM W4.heap.size (p5 5).A (p5 5).N (p5 5).C wh :: _) W5:=⟨hF.fx 5,hF.gx⟩
 clear hF
 refine wp_seq ?_
 refine wq hS hG hK (fun p6=>[.v 40 (.pointer (some ⟨p,0,none⟩)),.v 41 (pT (p2 3).N 2),.l 42 (.agg #[.slice (p2 2).A2 (p2 2).N2 (p2 2).C2]) 3 2,.v 43 (pT (p2 3).N 3),.l 44 (.agg #[.slice (p2 2).A3 (p2 2).N3 (p2 2).C3]) 3 3,.c (some 45) (cV (.int .i64 r)),.v 46 (.bool false)]) (fun p6=>[(0,.pointer (some ⟨p,0,none⟩)),(3,pT (p1 0).N 0),(4,pT (p1 1).N 0),(5,.int .i64 0),(6,pT (p2 3).N 0),(7,.bool s),(8,pT (p5 6).N 0),(46,.bool false)]) (fun p6=>?_) (fun p6 W6 T hF hK=>?_)
 ·iterate 2 refine okv ?_
  refine okl ?_
  refine okv ?_
  refine okl ?_
  refine okc (fun W cx=>as_v (unhide HC _ _ _ (p2 2).C2 _ _ (p2 2).C3 ⟨_,_,cx.B 0 _ rfl (by kernel_rfl) (by kernel_rfl),hp0⟩ (Mine.num cx.G.2.2.2.1) (Mine.num cx.G.2.2.2.2.1))) ?_
  refine okvb (decide_eq_false (show ¬ r < 0 by omega)) ?_
  exact ok_nil
 obtain ⟨hS,hG⟩:=SymF.fg hS hF
 clear hF
 have z6:=hS.fr.size
 refine wp_cond_false (hK.ew 46) (wp_skip (then_n ?_))
 refine wq hS hG hK (fun p7=>[.v 64 (.pointer (some ⟨p,0,none⟩)),.v 65 (.pointer (some ⟨p,0,none⟩)),.l 66 (.agg #[.slice (p5 5).A (p5 5).N (p5 5).C]) 4 0,.v 67 (pT (p2 3).N 4),.l 68 (.agg #[.slice (p2 2).A4 (p2 2).N4 (p2 2).C4]) 3 4,.c (some 69) (cN W6.heap.size x),.v 70 (.pointer (some ⟨p,0,none⟩)),.v 71 (pT (p2 3).N 2),.l 72 (.agg #[.slice (p2 2).A2 (p2 2).N2 (p2 2).C2]) 3 2,.v 73 (pT (p2 3).N 3),.l 74 (.agg #[.slice (p2 2).A3 (p2 2).N3 (p2 2).C3]) 3 3,.c (some 75) (cN W6.heap.size y),.c (some 76) (cN W6.heap.size z),.n 9 #[.slice none 0 0] 26,.p 1013 0 [.slice (p7 12).A (p7 12).N (p7 12).C]]) (fun p7=>[(0,.pointer (some ⟨p,0,none⟩)),(3,pT (p1 0).N 0),(4,pT (p1 1).N 0),(5,.int .i64 0),(6,pT (p2 3).N 0),(7,.bool s),(8,pT (p5 6).N 0),(9,pT (p7 13).N 0)]) (fun p7=>?_) (fun p7 W7 T hF hK=>?_)
 ·iterate 2 refine okv ?_
  refine okl ?_
  refine okv ?_
  refine okl ?_
  refine okc (fun W cx=>as_n cx.hb (unhide H5 _ _ _ (p5 5).C _ _ (p2 2).C4 ⟨_,_,cx.B 0 _ rfl (by kernel_rfl) (by kernel_rfl),hp0⟩ (Mine.num cx.G.1) (Mine.num cx.G.2.2.2.2.2.1))) ?_
  iterate 2 refine okv ?_
  refine okl ?_
  refine okv ?_
  refine okl ?_
  refine okc (fun W cx=>as_n cx.hb (unhide H6 _ _ _ (p2 2).C2 _ _ (p2 2).C3 ⟨_,_,cx.B 0 _ rfl (by kernel_rfl) (by kernel_rfl),hp0⟩ (Mine.num cx.G.2.2.2.1) (Mine.num cx.G.2.2.2.2.1))) ?_
  refine okc (fun W cx=>as_n cx.hb (unhide H7 _ _ _ (p7 5).C _ _ (p7 11).C ⟨_,_,cx.B 0 _ rfl (by kernel_rfl) (by kernel_rfl),hp0⟩ (Mine.num (cx.F 5 (by kernel_rfl))) (Mine.num (cx.F 11 (by kernel_rfl))))) ?_
  refine okn ?_
  refine okp ?_
  exact ok_nil
 replace hS:=SymF.fc hS hF [0,1,2,3,4,1013] [⟨p,cs9,t9_,false⟩,⟨(p1 0).N,#[.bool s,.slice a1 n1 c1,.slice a2 n2 c2,.bool t,.slice a3 n3 c3,.slice a4 n4 c4],86,true⟩,⟨(p1 1).N,#[.bool false,.slice none 0 0,.slice none 0 0],28,true⟩,⟨(p2 3).N,#[.slice (p2 2).A (p2 2).N (p2 2).C,.slice (p2 2).A' (p2 2).N' (p2 2).C',.slice (p2 2).A2 (p2 2).N2 (p2 2).C2,.slice (p2 2).A3 (p2 2).N3 (p2 2).C3,.slice (p2 2).A4 (p2 2).N4 (p2 2).C4,.bool b],147,true⟩,⟨(p5 6).N,#[.slice (p5 5).A (p5 5).N (p5 5).C],26,true⟩,⟨(p7 13).N,#[.slice (p7 12).A (p7 12).N (p7 12).C],26,true⟩]
 replace hG:GsAt (gM W6.heap.size (p7 5).A (p7 5).N (p7 5).C x :: gM W6.heap.size (p7 11).A (p7 11).N (p7 11).C y :: gM W6.heap.size (p7 12).A (p7 12).N (p7 12).C z :: _) W7:=⟨hF.fx 5,hF.fx 11,hF.fx 12,hF.gx⟩
 clear hF
 refine wq hS hG hK (fun p8=>[.v 77 (.pointer (some ⟨p,0,none⟩)),.v 78 (.bool s),.l 79 (.agg #[.slice (p7 12).A (p7 12).N (p7 12).C]) 5 0,.v 80 (pT (p2 3).N 4),.l 81 (.agg #[.slice (p2 2).A4 (p2 2).N4 (p2 2).C4]) 3 4,.c (some 82) (cV (.tuple #[.agg #[.bool g,.slice (p7 12).A (p7 12).N (p7 12).C,.slice (p2 2).A4 (p2 2).N4 (p2 2).C4],.int .i64 0])),.v 83 (.agg #[.bool g,.slice (p7 12).A (p7 12).N (p7 12).C,.slice (p2 2).A4 (p2 2).N4 (p2 2).C4]),.v 84 (.int .i64 0),.p 2 0 [.bool g,.slice (p7 12).A (p7 12).N (p7 12).C,.slice (p2 2).A4 (p2 2).N4 (p2 2).C4],.v 5 (.int .i64 0)]) (fun p8=>[(0,.pointer (some ⟨p,0,none⟩)),(3,pT (p1 0).N 0),(4,pT (p1 1).N 0),(5,.int .i64 0),(6,pT (p2 3).N 0),(8,pT (p5 6).N 0)]) (fun p8=>?_) (fun p8 W8 T hF hK=>?_)
 ·iterate 2 refine okv ?_
  refine okl ?_
  refine okv ?_
  refine okl ?_
  refine okc (fun W cx=>as_v (unhide HF _ _ _ (p7 12).C _ _ (p2 2).C4 ⟨_,_,cx.B 0 _ rfl (by kernel_rfl) (by kernel_rfl),hp0⟩ (Mine.num cx.G.2.2.1) (Mine.num cx.G.2.2.2.2.2.2.2.2.1))) ?_
  iterate 2 refine okv ?_
  refine okp ?_
  refine okv ?_
  exact ok_nil
 replace hS:=SymF.fc hS hF [0,1,2,3,4] [⟨p,cs9,t9_,false⟩,⟨(p1 0).N,#[.bool s,.slice a1 n1 c1,.slice a2 n2 c2,.bool t,.slice a3 n3 c3,.slice a4 n4 c4],86,true⟩,⟨(p1 1).N,#[.bool g,.slice (p7 12).A (p7 12).N (p7 12).C,.slice (p2 2).A4 (p2 2).N4 (p2 2).C4],28,true⟩,⟨(p2 3).N,#[.slice (p2 2).A (p2 2).N (p2 2).C,.slice (p2 2).A' (p2 2).N' (p2 2).C',.slice (p2 2).A2 (p2 2).N2 (p2 2).C2,.slice (p2 2).A3 (p2 2).N3 (p2 2).C3,.slice (p2 2).A4 (p2 2).N4 (p2 2).C4,.bool b],147,true⟩,⟨(p5 6).N,#[.slice (p5 5).A (p5 5).N (p5 5).C],26,true⟩]
 replace hG:=hF.gx
 clear hF
 refine wp_ret ?_
 exact sym_end hS hK (.tuple #[.agg #[.bool g,.slice (p7 12).A (p7 12).N (p7 12).C,.slice (p2 2).A4 (p2 2).N4 (p2 2).C4],.int .i64 0]) [(2,0,3)] [.bool g,.slice (p7 12).A (p7 12).N (p7 12).C,.slice (p2 2).A4 (p2 2).N4 (p2 2).C4] (by kernel_rfl) (by kernel_rfl) ⟨⟨_,_,_,_,_,_,rfl,Mine.mono hG.2.2.1 z6,Mine.mono hG.2.2.2.2.2.2.2.2.1 z1⟩,hS.fr⟩
def WSum (f:FuncId) (p:Nat) (s t:Bool) (m1 d1 m2 d2 z dn:Nat) (g:Bool):Prop:=∀ (W:World) (a1:Option Addr) (n1 c1:Nat) (a2:Option Addr) (n2 c2:Nat) (a3:Option Addr) (n3 c3:Nat) (a4:Option Addr) (n4 c4:Nat),Rz W p 0→Num W a1 n1 m1→Num W a2 n2 d1→Num W a3 n3 m2→Num W a4 n4 d2→Calls Tryz.prog f #[.pointer (some ⟨p,0,none⟩),.agg #[.bool s,.slice a1 n1 c1,.slice a2 n2 c2,.bool t,.slice a3 n3 c3,.slice a4 n4 c4]] W fun en W'=>(∃ A N C A' N' C',en = .returned (.tuple #[.agg #[.bool g,.slice A N C,.slice A' N' C'],.int .i64 0])∧Mine W' W.heap.size A N C z∧Mine W' W.heap.size A' N' C' dn)∧Below W.heap.size W W'
def BSum (f:FuncId) (s t:Bool) (m1 d1 m2 d2 z dn:Nat) (g:Bool):Prop:=∀ (W:World) (a1:Option Addr) (n1 c1:Nat) (a2:Option Addr) (n2 c2:Nat) (a3:Option Addr) (n3 c3:Nat) (a4:Option Addr) (n4 c4:Nat),Num W a1 n1 m1→Num W a2 n2 d1→Num W a3 n3 m2→Num W a4 n4 d2→Calls Tryz.prog f #[.agg #[.bool s,.slice a1 n1 c1,.slice a2 n2 c2,.bool t,.slice a3 n3 c3,.slice a4 n4 c4]] W fun en W'=>(∃ A N C A' N' C',en = .returned (.tuple #[.agg #[.bool g,.slice A N C,.slice A' N' C'],.int .i64 0])∧Mine W' W.heap.size A N C z∧Mine W' W.heap.size A' N' C' dn)∧Below W.heap.size W W'
theorem zsum_s (w:World) (a1 a2 a3 a4:Option Addr) (n1 n2 n3 n4 c1 c2 c3 c4 m1 d1 m2 d2:Nat) (s g:Bool) (z dn:Nat) (h1:Num w a1 n1 m1) (h2:Num w a2 n2 d1) (h3:Num w a3 n3 m2) (h4:Num w a4 n4 d2) (HT:∀ p:Nat,Hid (WSum 87 p s s m1 d1 m2 d2 z dn g))  :
  Calls Tryz.prog 47 #[.agg #[.bool s,.slice a1 n1 c1,.slice a2 n2 c2,.bool s,.slice a3 n3 c3,.slice a4 n4 c4]] w fun en w'=>(∃ A N C A' N' C',en = .returned (.tuple #[.agg #[.bool g,.slice A N C,.slice A' N' C'],.int .i64 0])∧Mine w' w.heap.size A N C z∧Mine w' w.heap.size A' N' C' dn)∧Below w.heap.size w w':=by
 refine calls_sym Tryz.func47 rfl (by kernel_rfl) fun T hK=>?_
 replace hK:Kn T _ [(0,.agg #[.bool s,.slice a1 n1 c1,.slice a2 n2 c2,.bool s,.slice a3 n3 c3,.slice a4 n4 c4])]:=hK
 have hS:=Fb.begin w
 have hG:GsAt [gN a1 n1 m1,gN a2 n2 d1,gN a3 n3 m2,gN a4 n4 d2] w:=⟨h1,h2,h3,h4,trivial⟩
 refine wq hS hG hK (fun p1=>[.n 1 #[.bool s,.slice a1 n1 c1,.slice a2 n2 c2,.bool s,.slice a3 n3 c3,.slice a4 n4 c4] 86,.n 2 #[.bool false,.slice none 0 0,.slice none 0 0] 28,.v 3 (.int .i64 0)]) (fun p1=>[(1,pT (p1 0).N 0),(2,pT (p1 1).N 0),(3,.int .i64 0)]) (fun p1=>?_) (fun p1 W1 T hF hK=>?_)
 ·iterate 2 refine okn ?_
  refine okv ?_
  exact ok_nil
 replace hS:=SymF.fc hS hF [1000,1001] [⟨(p1 0).N,#[.bool s,.slice a1 n1 c1,.slice a2 n2 c2,.bool s,.slice a3 n3 c3,.slice a4 n4 c4],86,true⟩,⟨(p1 1).N,#[.bool false,.slice none 0 0,.slice none 0 0],28,true⟩]
 replace hG:=hF.gx
 clear hF
 refine wq hS hG hK (fun p2=>[.n 4 #[.int .i64 0] 110]) (fun p2=>[(1,pT (p1 0).N 0),(2,pT (p1 1).N 0),(3,.int .i64 0),(4,pT (p2 0).N 0)]) (fun p2=>?_) (fun p2 W2 T hF hK=>?_)
 ·refine okn ?_
  exact ok_nil
 replace hS:=SymF.fc hS hF [0,1,1000] [⟨(p1 0).N,#[.bool s,.slice a1 n1 c1,.slice a2 n2 c2,.bool s,.slice a3 n3 c3,.slice a4 n4 c4],86,true⟩,⟨(p1 1).N,#[.bool false,.slice none 0 0,.slice none 0 0],28,true⟩,⟨(p2 0).N,#[.int .i64 0],110,true⟩]
 replace hG:=hF.gx
 clear hF
 refine wp_seq ?_
 refine wq hS hG hK (fun p3=>[.v 5 (pT (p1 0).N 0),.v 6 (pT (p1 0).N 0),.l 7 (.bool s) 0 0,.v 8 (pT (p1 0).N 3),.v 9 (pT (p1 0).N 3),.l 10 (.bool s) 0 3,.v 11 (.bool true)]) (fun p3=>[(1,pT (p1 0).N 0),(2,pT (p1 1).N 0),(3,.int .i64 0),(4,pT (p2 0).N 0),(11,.bool true)]) (fun p3=>?_) (fun p3 W3 T hF hK=>?_)
 ·iterate 2 refine okv ?_
  refine okl ?_
  iterate 2 refine okv ?_
  refine okl ?_
  refine okvb (beq_self_eq_true s) ?_
  exact ok_nil
 obtain ⟨hS,hG⟩:=SymF.fg hS hF
 clear hF
 have z3:=hS.fr.size
 refine wp_cond_true (hK.ew 11) ?_
 refine wq hS hG hK (fun p4=>[.l 12 (.agg #[.bool s,.slice a1 n1 c1,.slice a2 n2 c2,.bool s,.slice a3 n3 c3,.slice a4 n4 c4]) 0 0,.c (some 13) (cH W3.heap.size z dn fun x9 y9=>.tuple #[.agg #[.bool g,x9,y9],.int .i64 0]),.v 14 (.agg #[.bool g,.slice (p4 1).A (p4 1).N (p4 1).C,.slice (p4 1).A' (p4 1).N' (p4 1).C']),.v 15 (.int .i64 0),.p 1 0 [.bool g,.slice (p4 1).A (p4 1).N (p4 1).C,.slice (p4 1).A' (p4 1).N' (p4 1).C'],.v 3 (.int .i64 0)]) (fun p4=>[(1,pT (p1 0).N 0),(2,pT (p1 1).N 0),(3,.int .i64 0),(4,pT (p2 0).N 0)]) (fun p4=>?_) (fun p4 W4 T hF hK=>?_)
 ·refine okl ?_
  refine okc (fun W cx=>as_h cx.hb (unhide (HT (p2 0).N) _ _ _ c1 _ _ c2 _ _ c3 _ _ c4 ⟨_,_,cx.B 2 _ rfl (by kernel_rfl) (by kernel_rfl),rfl⟩ (cx.G.1) (cx.G.2.1) (cx.G.2.2.1) (cx.G.2.2.2.1))) ?_
  iterate 2 refine okv ?_
  refine okp ?_
  refine okv ?_
  exact ok_nil
 replace hS:=SymF.fc hS hF [0,1,2] [⟨(p1 0).N,#[.bool s,.slice a1 n1 c1,.slice a2 n2 c2,.bool s,.slice a3 n3 c3,.slice a4 n4 c4],86,true⟩,⟨(p1 1).N,#[.bool g,.slice (p4 1).A (p4 1).N (p4 1).C,.slice (p4 1).A' (p4 1).N' (p4 1).C'],28,true⟩,⟨(p2 0).N,#[.int .i64 0],110,true⟩]
 replace hG:GsAt (gM W3.heap.size (p4 1).A (p4 1).N (p4 1).C z :: gM W3.heap.size (p4 1).A' (p4 1).N' (p4 1).C' dn :: _) W4:=⟨And.left (hF.fx 1),And.right (hF.fx 1),hF.gx⟩
 clear hF
 refine wp_ret ?_
 refine then_r ?_
 exact sym_end hS hK (.tuple #[.agg #[.bool g,.slice (p4 1).A (p4 1).N (p4 1).C,.slice (p4 1).A' (p4 1).N' (p4 1).C'],.int .i64 0]) [(1,0,3)] [.bool g,.slice (p4 1).A (p4 1).N (p4 1).C,.slice (p4 1).A' (p4 1).N' (p4 1).C'] (by kernel_rfl) (by kernel_rfl) ⟨⟨_,_,_,_,_,_,rfl,Mine.mono hG.1 z3,Mine.mono hG.2.1 z3⟩,hS.fr⟩
theorem zsum_d (w:World) (a1 a2 a3 a4:Option Addr) (n1 n2 n3 n4 c1 c2 c3 c4 m1 d1 m2 d2:Nat) (s t g:Bool) (z dn:Nat) (h1:Num w a1 n1 m1) (h2:Num w a2 n2 d1) (h3:Num w a3 n3 m2) (h4:Num w a4 n4 d2) (HT:∀ p:Nat,Hid (WSum 88 p s t m1 d1 m2 d2 z dn g)) (hst:(s == t) = false)  :
  Calls Tryz.prog 47 #[.agg #[.bool s,.slice a1 n1 c1,.slice a2 n2 c2,.bool t,.slice a3 n3 c3,.slice a4 n4 c4]] w fun en w'=>(∃ A N C A' N' C',en = .returned (.tuple #[.agg #[.bool g,.slice A N C,.slice A' N' C'],.int .i64 0])∧Mine w' w.heap.size A N C z∧Mine w' w.heap.size A' N' C' dn)∧Below w.heap.size w w':=by
 refine calls_sym Tryz.func47 rfl (by kernel_rfl) fun T hK=>?_
 replace hK:Kn T _ [(0,.agg #[.bool s,.slice a1 n1 c1,.slice a2 n2 c2,.bool t,.slice a3 n3 c3,.slice a4 n4 c4])]:=hK
 have hS:=Fb.begin w
 have hG:GsAt [gN a1 n1 m1,gN a2 n2 d1,gN a3 n3 m2,gN a4 n4 d2] w:=⟨h1,h2,h3,h4,trivial⟩
 refine wq hS hG hK (fun p1=>[.n 1 #[.bool s,.slice a1 n1 c1,.slice a2 n2 c2,.bool t,.slice a3 n3 c3,.slice a4 n4 c4] 86,.n 2 #[.bool false,.slice none 0 0,.slice none 0 0] 28,.v 3 (.int .i64 0)]) (fun p1=>[(1,pT (p1 0).N 0),(2,pT (p1 1).N 0),(3,.int .i64 0)]) (fun p1=>?_) (fun p1 W1 T hF hK=>?_)
 ·iterate 2 refine okn ?_
  refine okv ?_
  exact ok_nil
 replace hS:=SymF.fc hS hF [1000,1001] [⟨(p1 0).N,#[.bool s,.slice a1 n1 c1,.slice a2 n2 c2,.bool t,.slice a3 n3 c3,.slice a4 n4 c4],86,true⟩,⟨(p1 1).N,#[.bool false,.slice none 0 0,.slice none 0 0],28,true⟩]
 replace hG:=hF.gx
 clear hF
 refine wq hS hG hK (fun p2=>[.n 4 #[.int .i64 0] 110]) (fun p2=>[(1,pT (p1 0).N 0),(2,pT (p1 1).N 0),(3,.int .i64 0),(4,pT (p2 0).N 0)]) (fun p2=>?_) (fun p2 W2 T hF hK=>?_)
 ·refine okn ?_
  exact ok_nil
 replace hS:=SymF.fc hS hF [0,1,1000] [⟨(p1 0).N,#[.bool s,.slice a1 n1 c1,.slice a2 n2 c2,.bool t,.slice a3 n3 c3,.slice a4 n4 c4],86,true⟩,⟨(p1 1).N,#[.bool false,.slice none 0 0,.slice none 0 0],28,true⟩,⟨(p2 0).N,#[.int .i64 0],110,true⟩]
 replace hG:=hF.gx
 clear hF
 refine wp_seq ?_
 refine wq hS hG hK (fun p3=>[.v 5 (pT (p1 0).N 0),.v 6 (pT (p1 0).N 0),.l 7 (.bool s) 0 0,.v 8 (pT (p1 0).N 3),.v 9 (pT (p1 0).N 3),.l 10 (.bool t) 0 3,.v 11 (.bool false)]) (fun p3=>[(1,pT (p1 0).N 0),(2,pT (p1 1).N 0),(3,.int .i64 0),(4,pT (p2 0).N 0),(11,.bool false)]) (fun p3=>?_) (fun p3 W3 T hF hK=>?_)
 ·iterate 2 refine okv ?_
  refine okl ?_
  iterate 2 refine okv ?_
  refine okl ?_
  refine okvb (hst) ?_
  exact ok_nil
 obtain ⟨hS,hG⟩:=SymF.fg hS hF
 clear hF
 have z3:=hS.fr.size
 refine wp_cond_false (hK.ew 11) (wp_skip (then_n ?_))
 refine wq hS hG hK (fun p4=>[.l 16 (.agg #[.bool s,.slice a1 n1 c1,.slice a2 n2 c2,.bool t,.slice a3 n3 c3,.slice a4 n4 c4]) 0 0,.c (some 17) (cH W3.heap.size z dn fun x9 y9=>.tuple #[.agg #[.bool g,x9,y9],.int .i64 0]),.v 18 (.agg #[.bool g,.slice (p4 1).A (p4 1).N (p4 1).C,.slice (p4 1).A' (p4 1).N' (p4 1).C']),.v 19 (.int .i64 0),.p 1 0 [.bool g,.slice (p4 1).A (p4 1).N (p4 1).C,.slice (p4 1).A' (p4 1).N' (p4 1).C'],.v 3 (.int .i64 0)]) (fun p4=>[(1,pT (p1 0).N 0),(2,pT (p1 1).N 0),(3,.int .i64 0),(4,pT (p2 0).N 0)]) (fun p4=>?_) (fun p4 W4 T hF hK=>?_)
 ·refine okl ?_
  refine okc (fun W cx=>as_h cx.hb (unhide (HT (p2 0).N) _ _ _ c1 _ _ c2 _ _ c3 _ _ c4 ⟨_,_,cx.B 2 _ rfl (by kernel_rfl) (by kernel_rfl),rfl⟩ (cx.G.1) (cx.G.2.1) (cx.G.2.2.1) (cx.G.2.2.2.1))) ?_
  iterate 2 refine okv ?_
  refine okp ?_
  refine okv ?_
  exact ok_nil
 replace hS:=SymF.fc hS hF [0,1,2] [⟨(p1 0).N,#[.bool s,.slice a1 n1 c1,.slice a2 n2 c2,.bool t,.slice a3 n3 c3,.slice a4 n4 c4],86,true⟩,⟨(p1 1).N,#[.bool g,.slice (p4 1).A (p4 1).N (p4 1).C,.slice (p4 1).A' (p4 1).N' (p4 1).C'],28,true⟩,⟨(p2 0).N,#[.int .i64 0],110,true⟩]
 replace hG:GsAt (gM W3.heap.size (p4 1).A (p4 1).N (p4 1).C z :: gM W3.heap.size (p4 1).A' (p4 1).N' (p4 1).C' dn :: _) W4:=⟨And.left (hF.fx 1),And.right (hF.fx 1),hF.gx⟩
 clear hF
 refine wp_ret ?_
 exact sym_end hS hK (.tuple #[.agg #[.bool g,.slice (p4 1).A (p4 1).N (p4 1).C,.slice (p4 1).A' (p4 1).N' (p4 1).C'],.int .i64 0]) [(1,0,3)] [.bool g,.slice (p4 1).A (p4 1).N (p4 1).C,.slice (p4 1).A' (p4 1).N' (p4 1).C'] (by kernel_rfl) (by kernel_rfl) ⟨⟨_,_,_,_,_,_,rfl,Mine.mono hG.1 z3,Mine.mono hG.2.1 z3⟩,hS.fr⟩
theorem zfra_t (w:World) (p:Nat) (a1 a2:Option Addr) (n1 n2 c1 c2 x y:Nat) (b:Bool) (hR:Rz w p 0) (h1:Num w a1 n1 x) (h2:Num w a2 n2 y) (hz:decide (x = 0) = b)  :
  Calls Tryz.prog 70 #[.pointer (some ⟨p,0,none⟩),.bool true,.agg #[.slice a1 n1 c1],.agg #[.slice a2 n2 c2]] w fun en w'=>en = .returned (.tuple #[.agg #[.bool (!b),.slice a1 n1 c1,.slice a2 n2 c2],.int .i64 0])∧Below w.heap.size w w':=by
 obtain ⟨cs9,t9_,hp,hp0⟩:=hR
 refine calls_sym Tryz.func70 rfl (by kernel_rfl) fun T hK=>?_
 replace hK:Kn T _ [(0,.pointer (some ⟨p,0,none⟩)),(1,.bool true),(2,.agg #[.slice a1 n1 c1]),(3,.agg #[.slice a2 n2 c2])]:=hK
 have hS:=Fb.other hp
 have hG:GsAt [gN a1 n1 x,gN a2 n2 y] w:=⟨h1,h2,trivial⟩
 refine wq hS hG hK (fun p1=>[.n 6 #[.slice a1 n1 c1] 26,.n 7 #[.slice a2 n2 c2] 26,.n 8 #[.bool false,.slice none 0 0,.slice none 0 0] 28,.v 9 (.int .i64 0)]) (fun p1=>[(0,.pointer (some ⟨p,0,none⟩)),(1,.bool true),(6,pT (p1 0).N 0),(7,pT (p1 1).N 0),(8,pT (p1 2).N 0),(9,.int .i64 0)]) (fun p1=>?_) (fun p1 W1 T hF hK=>?_)
 ·iterate 3 refine okn ?_
  refine okv ?_
  exact ok_nil
 replace hS:=SymF.fc hS hF [0,1000,1001,1002] [⟨p,cs9,t9_,false⟩,⟨(p1 0).N,#[.slice a1 n1 c1],26,true⟩,⟨(p1 1).N,#[.slice a2 n2 c2],26,true⟩,⟨(p1 2).N,#[.bool false,.slice none 0 0,.slice none 0 0],28,true⟩]
 replace hG:=hF.gx
 clear hF
 refine wp_seq ?_
 refine wq hS hG hK (fun p2=>[.v 10 (.pointer (some ⟨p,0,none⟩)),.v 11 (.pointer (some ⟨p,0,none⟩)),.v 12 (.pointer (some ⟨p,0,none⟩)),.v 13 (.pointer (some ⟨p,0,none⟩)),.g 14 (.int .i64 0) [.int .i64 0] [.ld ⟨p,0,none⟩ (.int .i64 0)],.v 15 (.bool false)]) (fun p2=>[(0,.pointer (some ⟨p,0,none⟩)),(1,.bool true),(6,pT (p1 0).N 0),(7,pT (p1 1).N 0),(8,pT (p1 2).N 0),(9,.int .i64 0),(15,.bool false)]) (fun p2=>?_) (fun p2 W2 T hF hK=>?_)
 ·iterate 4 refine okv ?_
  refine ok_g (fun W cx=>⟨⟨(Rz.cell (k:=0) ⟨_,_,cx.B 0 _ rfl (by kernel_rfl) (by kernel_rfl),hp0⟩).1,trivial⟩,rfl⟩) (by kernel_rfl) ?_
  refine okv ?_
  exact ok_nil
 obtain ⟨hS,hG⟩:=SymF.fg hS hF
 clear hF
 refine wp_cond_false (hK.ew 15) (wp_skip (then_n ?_))
 refine wq hS hG hK (fun p3=>[.v 22 (.bool true),.v 23 (.bool true),.l 24 (.agg #[.slice a1 n1 c1]) 1 0,.c (some 25) (cV (.bool b)),.v 26 (.bool (!b)),.v 27 (.bool (!b)),.l 28 (.agg #[.slice a1 n1 c1]) 1 0,.l 29 (.agg #[.slice a2 n2 c2]) 2 0,.v 30 (.agg #[.bool (!b),.slice a1 n1 c1,.slice a2 n2 c2]),.p 3 0 [.bool (!b),.slice a1 n1 c1,.slice a2 n2 c2],.v 9 (.int .i64 0)]) (fun p3=>[(0,.pointer (some ⟨p,0,none⟩)),(8,pT (p1 2).N 0),(9,.int .i64 0)]) (fun p3=>?_) (fun p3 W3 T hF hK=>?_)
 ·iterate 2 refine okv ?_
  refine okl ?_
  refine okc (fun W cx=>as_v (znought a1 _ c1 _ _ ((Num.zdec (cx.G.1)).trans hz))) ?_
  iterate 2 refine okv ?_
  iterate 2 refine okl ?_
  refine okv ?_
  refine okp ?_
  refine okv ?_
  exact ok_nil
 replace hS:=SymF.fc hS hF [0,3] [⟨p,cs9,t9_,false⟩,⟨(p1 2).N,#[.bool (!b),.slice a1 n1 c1,.slice a2 n2 c2],28,true⟩]
 replace hG:=hF.gx
 clear hF
 refine wp_ret ?_
 exact sym_end hS hK (.tuple #[.agg #[.bool (!b),.slice a1 n1 c1,.slice a2 n2 c2],.int .i64 0]) [(1,0,3)] [.bool (!b),.slice a1 n1 c1,.slice a2 n2 c2] (by kernel_rfl) (by kernel_rfl) ⟨rfl,hS.fr⟩
theorem zfra_f (w:World) (p:Nat) (a1 a2:Option Addr) (n1 n2 c1 c2 x y:Nat) (hR:Rz w p 0) (h1:Num w a1 n1 x) (h2:Num w a2 n2 y)  :
  Calls Tryz.prog 70 #[.pointer (some ⟨p,0,none⟩),.bool false,.agg #[.slice a1 n1 c1],.agg #[.slice a2 n2 c2]] w fun en w'=>en = .returned (.tuple #[.agg #[.bool false,.slice a1 n1 c1,.slice a2 n2 c2],.int .i64 0])∧Below w.heap.size w w':=by
 obtain ⟨cs9,t9_,hp,hp0⟩:=hR
 refine calls_sym Tryz.func70 rfl (by kernel_rfl) fun T hK=>?_
 replace hK:Kn T _ [(0,.pointer (some ⟨p,0,none⟩)),(1,.bool false),(2,.agg #[.slice a1 n1 c1]),(3,.agg #[.slice a2 n2 c2])]:=hK
 have hS:=Fb.other hp
 have hG:GsAt [gN a1 n1 x,gN a2 n2 y] w:=⟨h1,h2,trivial⟩
 refine wq hS hG hK (fun p1=>[.n 6 #[.slice a1 n1 c1] 26,.n 7 #[.slice a2 n2 c2] 26,.n 8 #[.bool false,.slice none 0 0,.slice none 0 0] 28,.v 9 (.int .i64 0)]) (fun p1=>[(0,.pointer (some ⟨p,0,none⟩)),(1,.bool false),(6,pT (p1 0).N 0),(7,pT (p1 1).N 0),(8,pT (p1 2).N 0),(9,.int .i64 0)]) (fun p1=>?_) (fun p1 W1 T hF hK=>?_)
 ·iterate 3 refine okn ?_
  refine okv ?_
  exact ok_nil
 replace hS:=SymF.fc hS hF [0,1000,1001,1002] [⟨p,cs9,t9_,false⟩,⟨(p1 0).N,#[.slice a1 n1 c1],26,true⟩,⟨(p1 1).N,#[.slice a2 n2 c2],26,true⟩,⟨(p1 2).N,#[.bool false,.slice none 0 0,.slice none 0 0],28,true⟩]
 replace hG:=hF.gx
 clear hF
 refine wp_seq ?_
 refine wq hS hG hK (fun p2=>[.v 10 (.pointer (some ⟨p,0,none⟩)),.v 11 (.pointer (some ⟨p,0,none⟩)),.v 12 (.pointer (some ⟨p,0,none⟩)),.v 13 (.pointer (some ⟨p,0,none⟩)),.g 14 (.int .i64 0) [.int .i64 0] [.ld ⟨p,0,none⟩ (.int .i64 0)],.v 15 (.bool false)]) (fun p2=>[(0,.pointer (some ⟨p,0,none⟩)),(1,.bool false),(6,pT (p1 0).N 0),(7,pT (p1 1).N 0),(8,pT (p1 2).N 0),(9,.int .i64 0),(15,.bool false)]) (fun p2=>?_) (fun p2 W2 T hF hK=>?_)
 ·iterate 4 refine okv ?_
  refine ok_g (fun W cx=>⟨⟨(Rz.cell (k:=0) ⟨_,_,cx.B 0 _ rfl (by kernel_rfl) (by kernel_rfl),hp0⟩).1,trivial⟩,rfl⟩) (by kernel_rfl) ?_
  refine okv ?_
  exact ok_nil
 obtain ⟨hS,hG⟩:=SymF.fg hS hF
 clear hF
 refine wp_cond_false (hK.ew 15) (wp_skip (then_n ?_))
 refine wq hS hG hK (fun p3=>[.v 22 (.bool false),.v 23 (.bool false),.k (some 24),.k (some 25),.k (some 26),.v 27 (.bool false),.l 28 (.agg #[.slice a1 n1 c1]) 1 0,.l 29 (.agg #[.slice a2 n2 c2]) 2 0,.v 30 (.agg #[.bool false,.slice a1 n1 c1,.slice a2 n2 c2]),.p 3 0 [.bool false,.slice a1 n1 c1,.slice a2 n2 c2],.v 9 (.int .i64 0)]) (fun p3=>[(0,.pointer (some ⟨p,0,none⟩)),(8,pT (p1 2).N 0),(9,.int .i64 0)]) (fun p3=>?_) (fun p3 W3 T hF hK=>?_)
 ·iterate 2 refine okv ?_
  iterate 3 refine okk ?_
  refine okv ?_
  iterate 2 refine okl ?_
  refine okv ?_
  refine okp ?_
  refine okv ?_
  exact ok_nil
 replace hS:=SymF.fc hS hF [0,3] [⟨p,cs9,t9_,false⟩,⟨(p1 2).N,#[.bool false,.slice a1 n1 c1,.slice a2 n2 c2],28,true⟩]
 replace hG:=hF.gx
 clear hF
 refine wp_ret ?_
 exact sym_end hS hK (.tuple #[.agg #[.bool false,.slice a1 n1 c1,.slice a2 n2 c2],.int .i64 0]) [(1,0,3)] [.bool false,.slice a1 n1 c1,.slice a2 n2 c2] (by kernel_rfl) (by kernel_rfl) ⟨rfl,hS.fr⟩
theorem zbck (w:World) (a1 a2 a3 a4:Option Addr) (n1 n2 n3 n4 c1 c2 c3 c4 m1 d1 m2 d2:Nat) (s t:Bool) (h1:Num w a1 n1 m1) (h2:Num w a2 n2 d1) (h3:Num w a3 n3 m2) (h4:Num w a4 n4 d2) (C1:Hid (∀ W:World,Num W a1 n1 m1→Num W a2 n2 d1→Calls Tryz.prog 29 #[.agg #[.bool s,.slice a1 n1 c1,.slice a2 n2 c2]] W fun e W'=>e = .returned (.int .i64 0)∧Below W.heap.size W W')) (C2:Hid (∀ W:World,Num W a3 n3 m2→Num W a4 n4 d2→Calls Tryz.prog 29 #[.agg #[.bool t,.slice a3 n3 c3,.slice a4 n4 c4]] W fun e W'=>e = .returned (.int .i64 0)∧Below W.heap.size W W'))  :
  Calls Tryz.prog 49 #[.agg #[.bool s,.slice a1 n1 c1,.slice a2 n2 c2,.bool t,.slice a3 n3 c3,.slice a4 n4 c4]] w fun en w'=>en = .returned (.int .i64 0)∧Below w.heap.size w w':=by
 refine calls_sym Tryz.func49 rfl (by kernel_rfl) fun T hK=>?_
 replace hK:Kn T _ [(0,.agg #[.bool s,.slice a1 n1 c1,.slice a2 n2 c2,.bool t,.slice a3 n3 c3,.slice a4 n4 c4])]:=hK
 have hS:=Fb.begin w
 have hG:GsAt [gN a1 n1 m1,gN a2 n2 d1,gN a3 n3 m2,gN a4 n4 d2] w:=⟨h1,h2,h3,h4,trivial⟩
 refine wq hS hG hK (fun p1=>[.n 1 #[.bool s,.slice a1 n1 c1,.slice a2 n2 c2,.bool t,.slice a3 n3 c3,.slice a4 n4 c4] 86,.v 2 (.int .i64 0)]) (fun p1=>[(1,pT (p1 0).N 0),(2,.int .i64 0)]) (fun p1=>?_) (fun p1 W1 T hF hK=>?_)
 ·refine okn ?_
  refine okv ?_
  exact ok_nil
 replace hS:=SymF.fc hS hF [1000] [⟨(p1 0).N,#[.bool s,.slice a1 n1 c1,.slice a2 n2 c2,.bool t,.slice a3 n3 c3,.slice a4 n4 c4],86,true⟩]
 replace hG:=hF.gx
 clear hF
 refine wp_seq ?_
 refine wq hS hG hK (fun p2=>[.v 4 (pT (p1 0).N 0),.l 5 (.agg #[.bool s,.slice a1 n1 c1,.slice a2 n2 c2]) 0 0,.c (some 6) (cV (.int .i64 0)),.v 3 (.int .i64 0)]) (fun p2=>[(1,pT (p1 0).N 0),(2,.int .i64 0),(3,.int .i64 0)]) (fun p2=>?_) (fun p2 W2 T hF hK=>?_)
 ·refine okv ?_
  refine okl ?_
  refine okc (fun W cx=>as_v (unhide C1 _ (cx.G.1) (cx.G.2.1))) ?_
  refine okv ?_
  exact ok_nil
 obtain ⟨hS,hG⟩:=SymF.fg hS hF
 clear hF
 refine wq hS hG hK (fun p3=>[.v 7 (.int .i64 0),.v 8 (.bool false)]) (fun p3=>[(1,pT (p1 0).N 0),(2,.int .i64 0),(3,.int .i64 0),(8,.bool false)]) (fun p3=>?_) (fun p3 W3 T hF hK=>?_)
 ·iterate 2 refine okv ?_
  exact ok_nil
 obtain ⟨hS,hG⟩:=SymF.fg hS hF
 clear hF
 refine wp_cond_false (hK.ew 8) (wp_skip (then_n ?_))
 refine wq hS hG hK (fun p4=>[.v 10 (pT (p1 0).N 3),.l 11 (.agg #[.bool t,.slice a3 n3 c3,.slice a4 n4 c4]) 0 3,.c (some 12) (cV (.int .i64 0)),.v 2 (.int .i64 0)]) (fun p4=>[(2,.int .i64 0),(3,.int .i64 0)]) (fun p4=>?_) (fun p4 W4 T hF hK=>?_)
 ·refine okv ?_
  refine okl ?_
  refine okc (fun W cx=>as_v (unhide C2 _ (cx.G.2.2.1) (cx.G.2.2.2.1))) ?_
  refine okv ?_
  exact ok_nil
 obtain ⟨hS,hG⟩:=SymF.fg hS hF
 clear hF
 refine wp_ret ?_
 exact sym_end hS hK (.int .i64 0) [] [] (by kernel_rfl) (by kernel_rfl) ⟨rfl,hS.fr⟩
theorem zans {w:World} {base:Nat} {e:Ending} {m:Nat} (h:Ans w base e m) (hn:¬ Over m):∃ a n cap,e = .returned (.tuple #[.agg #[.slice a n cap],.int .i64 0])∧Mine w base a n cap m:=by
 rcases h with h|h
 ·exact h
 ·exact absurd h.2 hn
theorem wadd_ok (p:Nat) {x y:Nat} (ho:¬ Over (x+y)):WTwo 114 p x y (x+y):=fun W a n c a' n' c' hR h h'=>
 zadd W p a a' n n' c c' x y _ hR h h' (hide fun W a n c a' n' c' h h'=>(add_any a a' n n' c c' x y W h h').mono fun _ _ ⟨k,hb⟩=>⟨zans k ho,hb⟩)
theorem wmul_ok (p:Nat) {x y:Nat} (ho:¬ Over (x * y)):WTwo 89 p x y (x * y):=fun W a n c a' n' c' hR h h'=>
 zmul W p a a' n n' c c' x y _ hR h h' (hide fun W a n c a' n' c' h h'=>(mul_any a a' n n' c c' x y W h h').mono fun _ _ ⟨k,hb⟩=>⟨zans k ho,hb⟩)
theorem wgcd_ok (p x y:Nat):WTwo 69 p x y (Nat.gcd x y):=fun W a n c a' n' c' hR h h'=>
 zgcd W p a a' n n' c c' x y _ hR h h' (hide fun W a n c a' n' c' h h'=>gcd_any a a' n n' c c' x y W h h')
theorem wsub_ok (p:Nat) {x y:Nat} (hy:y≤x):WTwo 116 p x y (x - y):=fun W a n c a' n' c' hR h h'=>
 zsub W p a a' n n' c c' x y _ true hR h h' (hide fun W a n c a' n' c' h h'=>(sub_any a a' n n' c c' x y W h h').mono fun _ _ ⟨k,hb⟩=>⟨by
  rcases k with ⟨k,_⟩|⟨_,k⟩
  ·omega
  ·exact k,hb⟩)
theorem wdiv_ok (p x:Nat) {y:Nat} (hy:0 < y):WDiv p x y (x / y) (x % y):=fun W a n c a' n' c' hR h h'=>
 zdiv W p a a' n n' c c' x y _ _ hR h h' (hide fun W a n c a' n' c' h h'=>(div_any a a' n n' c c' x y W h h').mono fun _ _ ⟨k,hb⟩=>⟨by
  rcases k with ⟨k,_⟩|⟨_,k⟩
  ·omega
  ·exact k,hb⟩)
theorem wcmp_ok (p x y:Nat):WCmp p x y (cmpI x y):=fun W a n c a' n' c' hR h h'=>
 zcmp W p a a' n n' c c' x y _ hR h h' (hide fun W a n c a' n' c' h h'=>cmpN_any a a' n n' c c' x y W h h')
theorem wover_ok (p x:Nat) {y:Nat} (hy:0 < y):WTwo 71 p x y (x / y):=fun W a n c a' n' c' hR h h'=>
 zover W p a a' n n' c c' x y _ _ hR h h' (hide (wdiv_ok p x hy))
theorem zmo_parts (x y z:Nat) (hz:0 < z):x / z * y+x % z * y / z = x * y / z∧x % z * y % z = x * y % z:=by
 have h:x * y = z * (x / z * y)+x % z * y:=by
  have:=Nat.div_add_mod x z
  conv=>lhs; rw [← this,Nat.add_mul,Nat.mul_assoc]
 exact ⟨by rw [h,Nat.mul_add_div hz],by rw [h,Nat.mul_add_mod]⟩
theorem wmo_ok (p x y:Nat) {z:Nat} (hz:0 < z) (ho:¬ Over (x % z * y)) (hq:¬ Over (x * y / z)) (hm:∀ {m n:Nat},m≤n→Over m→Over n):WMo p x y z (x * y / z) (x * y % z):=fun W a n c a' n' c' a2 n2 c2 hR h h' h2=>by
 obtain ⟨e1,e2⟩:=zmo_parts x y z hz
 have k:=zmo W p a a' a2 n n' n2 c c' c2 x y z _ _ _ _ _ _ _ hR h h' h2 (hide (wdiv_ok p x hz)) (hide (wmul_ok p ho)) (hide (wdiv_ok p _ hz)) (hide (wmul_ok p (x:=x / z) (y:=y) fun o=>hq (hm (Nat.le.intro e1) o))) (hide (wadd_ok p (by rw [e1]; exact hq)))
 rw [e1,e2] at k
 exact k
theorem wdist_ok (p x y:Nat):WTwo 132 p x y (if x < y then y - x else x - y):=fun W a n c a' n' c' hR h h'=>by
 by_cases hl:x < y
 ·rw [if_pos hl]
  exact zdist_lt W p a a' n n' c c' x y _ _ hR h h' (hide (wcmp_ok p x y)) (by unfold cmpI; rw [if_pos hl]; decide) (hide (wsub_ok p (by omega)))
 ·rw [if_neg hl]
  exact zdist_ge W p a a' n n' c c' x y _ _ hR h h' (hide (wcmp_ok p x y)) (by unfold cmpI; rw [if_neg hl]; split <;> decide) (hide (wsub_ok p (by omega)))
theorem wfr_ok (p:Nat) (s:Bool) (x y:Nat):WFr p s x y (s && !decide (x = 0)):=fun W a n c a' n' c' hR h h'=>by
 cases s
 ·exact zfra_f W p a a' n n' c c' x y hR h h'
 ·exact zfra_t W p a a' n n' c c' x y _ hR h h' rfl
theorem zover_mono {m n:Nat} (hmn:m≤n) (h:Over m):Over n:=⟨Nat.le_trans h.le hmn⟩
structure SmR (N m1 d1 m2 d2:Nat):Prop where
 a:m1≤N
 b:d1≤N
 c:m2≤N
 d:d2≤N
 p1:0 < d1
 p2:0 < d2
 o:∀ v,v≤8 * (N * N * N)+8→¬ Over v
theorem SmR.two {N m1 d1 m2 d2:Nat} (h:SmR N m1 d1 m2 d2) {v:Nat} (hv:v≤N * N):¬ Over v:=by
 have h0:0 < N:=Nat.lt_of_lt_of_le h.p1 h.b
 have:=Nat.le_mul_of_pos_right (N * N) h0
 exact h.o v (by omega)
theorem SmR.wmo {N m1 d1 m2 d2:Nat} (h:SmR N m1 d1 m2 d2) (p:Nat) {x y z:Nat} (hz:0 < z) (hx:x≤N) (hy:y≤N):WMo p x y z (x * y / z) (x * y % z):=
 wmo_ok p x y hz (h.two (Nat.mul_le_mul (Nat.le_trans (Nat.mod_le x z) hx) hy)) (h.two (Nat.le_trans (Nat.div_le_self _ _) (Nat.mul_le_mul hx hy))) zover_mono
theorem spl_s {N m1 d1 m2 d2:Nat} (h:SmR N m1 d1 m2 d2) (p:Nat) (s:Bool):WSpl p s s m1 d1 m2 d2 (m1 / d1) (m2 / d2) (Rm.partA true m1 d1 m2 d2) (Rm.partB true m1 d1 m2 d2) (Rm.sden true m1 d1 m2 d2) (!decide (Rm.broken true m1 d1 m2 d2 = 0)):=fun W a1 n1 c1 a2 n2 c2 a3 n3 c3 a4 n4 c4 hR h1 h2 h3 h4=>by
 have hg:0 < Nat.gcd d1 d2:=Nat.gcd_pos_of_pos_left _ h.p1
 have hl:0 < Rm.lost true m1 d1 m2 d2:=Nat.gcd_pos_of_pos_right _ hg
 have x1:m1 % d1≤N:=Nat.le_trans (Nat.le_of_lt (Nat.mod_lt _ h.p1)) h.b
 have x2:m2 % d2≤N:=Nat.le_trans (Nat.le_of_lt (Nat.mod_lt _ h.p2)) h.d
 have y1:d2 / Nat.gcd d1 d2≤N:=Nat.le_trans (Nat.div_le_self _ _) h.d
 have y2:d1 / Nat.gcd d1 d2≤N:=Nat.le_trans (Nat.div_le_self _ _) h.b
 have y3:d2 / Rm.lost true m1 d1 m2 d2≤N:=Nat.le_trans (Nat.div_le_self _ _) h.d
 exact zspl_s W p a1 a2 a3 a4 n1 n2 n3 n4 c1 c2 c3 c4 m1 d1 m2 d2 s (decide (Rm.broken true m1 d1 m2 d2 = 0)) (m1 / d1) (m1 % d1) (m2 / d2) (m2 % d2) (Nat.gcd d1 d2) (d2 / Nat.gcd d1 d2) (d1 / Nat.gcd d1 d2) (m1 % d1 * (d2 / Nat.gcd d1 d2) / Nat.gcd d1 d2) (m1 % d1 * (d2 / Nat.gcd d1 d2) % Nat.gcd d1 d2) (m2 % d2 * (d1 / Nat.gcd d1 d2) / Nat.gcd d1 d2) (m2 % d2 * (d1 / Nat.gcd d1 d2) % Nat.gcd d1 d2) (Nat.gcd d1 d2 - m2 % d2 * (d1 / Nat.gcd d1 d2) % Nat.gcd d1 d2) (Rm.dist (m1 % d1 * (d2 / Nat.gcd d1 d2) % Nat.gcd d1 d2) (Nat.gcd d1 d2 - m2 % d2 * (d1 / Nat.gcd d1 d2) % Nat.gcd d1 d2)) (Rm.lost true m1 d1 m2 d2) (d2 / Rm.lost true m1 d1 m2 d2) (Rm.sden true m1 d1 m2 d2) (Rm.partA true m1 d1 m2 d2) (Rm.broken true m1 d1 m2 d2) (Rm.partB true m1 d1 m2 d2) (m2 % d2 * (d1 / Nat.gcd d1 d2) % Rm.lost true m1 d1 m2 d2) hR h1 h2 h3 h4
  (hide (wdiv_ok p m1 h.p1)) (hide (wdiv_ok p m2 h.p2)) (hide (wgcd_ok p d1 d2)) (hide (wover_ok p d2 hg)) (hide (wover_ok p d1 hg)) (hide (h.wmo p hg x1 y1)) (hide (h.wmo p hg x2 y2)) (hide (wsub_ok p (Nat.le_of_lt (Nat.mod_lt _ hg)))) (hide (wdist_ok p _ _)) (hide (wgcd_ok p _ _)) (hide (wover_ok p d2 hl)) (hide (wmul_ok p (h.two (Nat.mul_le_mul y2 y3)))) (hide (h.wmo p hl x1 y1)) (hide (h.wmo p hl x2 y2)) rfl
theorem spl_d {N m1 d1 m2 d2:Nat} (h:SmR N m1 d1 m2 d2) (p:Nat) (s t:Bool) (hst:(s == t) = false):WSpl p s t m1 d1 m2 d2 (m1 / d1) (m2 / d2) (Rm.partA false m1 d1 m2 d2) (Rm.partB false m1 d1 m2 d2) (Rm.sden false m1 d1 m2 d2) (!decide (Rm.broken false m1 d1 m2 d2 = 0)):=fun W a1 n1 c1 a2 n2 c2 a3 n3 c3 a4 n4 c4 hR h1 h2 h3 h4=>by
 have hg:0 < Nat.gcd d1 d2:=Nat.gcd_pos_of_pos_left _ h.p1
 have hl:0 < Rm.lost false m1 d1 m2 d2:=Nat.gcd_pos_of_pos_right _ hg
 have x1:m1 % d1≤N:=Nat.le_trans (Nat.le_of_lt (Nat.mod_lt _ h.p1)) h.b
 have x2:m2 % d2≤N:=Nat.le_trans (Nat.le_of_lt (Nat.mod_lt _ h.p2)) h.d
 have y1:d2 / Nat.gcd d1 d2≤N:=Nat.le_trans (Nat.div_le_self _ _) h.d
 have y2:d1 / Nat.gcd d1 d2≤N:=Nat.le_trans (Nat.div_le_self _ _) h.b
 have y3:d2 / Rm.lost false m1 d1 m2 d2≤N:=Nat.le_trans (Nat.div_le_self _ _) h.d
 exact zspl_d W p a1 a2 a3 a4 n1 n2 n3 n4 c1 c2 c3 c4 m1 d1 m2 d2 s t (decide (Rm.broken false m1 d1 m2 d2 = 0)) (m1 / d1) (m1 % d1) (m2 / d2) (m2 % d2) (Nat.gcd d1 d2) (d2 / Nat.gcd d1 d2) (d1 / Nat.gcd d1 d2) (m1 % d1 * (d2 / Nat.gcd d1 d2) / Nat.gcd d1 d2) (m1 % d1 * (d2 / Nat.gcd d1 d2) % Nat.gcd d1 d2) (m2 % d2 * (d1 / Nat.gcd d1 d2) / Nat.gcd d1 d2) (m2 % d2 * (d1 / Nat.gcd d1 d2) % Nat.gcd d1 d2) (Rm.dist (m1 % d1 * (d2 / Nat.gcd d1 d2) % Nat.gcd d1 d2) (m2 % d2 * (d1 / Nat.gcd d1 d2) % Nat.gcd d1 d2)) (Rm.lost false m1 d1 m2 d2) (d2 / Rm.lost false m1 d1 m2 d2) (Rm.sden false m1 d1 m2 d2) (Rm.partA false m1 d1 m2 d2) (Rm.broken false m1 d1 m2 d2) (Rm.partB false m1 d1 m2 d2) (m2 % d2 * (d1 / Nat.gcd d1 d2) % Rm.lost false m1 d1 m2 d2) hR h1 h2 h3 h4
  (hide (wdiv_ok p m1 h.p1)) (hide (wdiv_ok p m2 h.p2)) (hide (wgcd_ok p d1 d2)) (hide (wover_ok p d2 hg)) (hide (wover_ok p d1 hg)) (hide (h.wmo p hg x1 y1)) (hide (h.wmo p hg x2 y2)) (hide (wdist_ok p _ _)) (hide (wgcd_ok p _ _)) (hide (wover_ok p d2 hl)) (hide (wmul_ok p (h.two (Nat.mul_le_mul y2 y3)))) (hide (h.wmo p hl x1 y1)) (hide (h.wmo p hl x2 y2)) rfl hst
theorem SmR.parts {N m1 d1 m2 d2:Nat} (h:SmR N m1 d1 m2 d2) (same:Bool):Rm.partA same m1 d1 m2 d2≤N * N∧Rm.partB same m1 d1 m2 d2≤N * N∧Rm.sden same m1 d1 m2 d2≤N * N∧m1 / d1≤N∧m2 / d2≤N:=by
 have x1:m1 % d1≤N:=Nat.le_trans (Nat.le_of_lt (Nat.mod_lt _ h.p1)) h.b
 have x2:m2 % d2≤N:=Nat.le_trans (Nat.le_of_lt (Nat.mod_lt _ h.p2)) h.d
 have y1:d2 / Nat.gcd d1 d2≤N:=Nat.le_trans (Nat.div_le_self _ _) h.d
 have y2:d1 / Nat.gcd d1 d2≤N:=Nat.le_trans (Nat.div_le_self _ _) h.b
 have y3:d2 / Rm.lost same m1 d1 m2 d2≤N:=Nat.le_trans (Nat.div_le_self _ _) h.d
 exact ⟨Nat.le_trans (Nat.div_le_self _ _) (Nat.mul_le_mul x1 y1),Nat.le_trans (Nat.div_le_self _ _) (Nat.mul_le_mul x2 y2),Nat.mul_le_mul y2 y3,Nat.le_trans (Nat.div_le_self _ _) h.a,Nat.le_trans (Nat.div_le_self _ _) h.c⟩
theorem tog_ok {N m1 d1 m2 d2:Nat} (h:SmR N m1 d1 m2 d2) (p:Nat) (s:Bool):WSum 87 p s s m1 d1 m2 d2 (Rm.snum m1 d1 m2 d2) (Rm.sden true m1 d1 m2 d2) (s && !decide (Rm.snum m1 d1 m2 d2 = 0)):=fun W a1 n1 c1 a2 n2 c2 a3 n3 c3 a4 n4 c4 hR h1 h2 h3 h4=>by
 have h0:0 < N:=Nat.lt_of_lt_of_le h.p1 h.b
 obtain ⟨b1,b2,b3,b4,b5⟩:=h.parts true
 have hNN:=Nat.le_mul_of_pos_right (N * N) h0
 have hN1:N≤N * N:=Nat.le_mul_of_pos_right N h0
 have b6:(m1 / d1+m2 / d2) * Rm.sden true m1 d1 m2 d2≤(2 * N) * (N * N):=Nat.mul_le_mul (by omega) b3
 have b7:(2 * N) * (N * N) = 2 * (N * N * N):=by rw [Nat.mul_assoc 2,Nat.mul_comm N (N * N)]
 have HS:=spl_s h p s
 have z1:=wadd_ok p (h.o (Rm.partA true m1 d1 m2 d2+Rm.partB true m1 d1 m2 d2) (by omega))
 have z3:=wadd_ok p (h.o (m1 / d1+m2 / d2) (by omega))
 have z4:=wmul_ok p (h.o ((m1 / d1+m2 / d2) * Rm.sden true m1 d1 m2 d2) (by omega))
 by_cases hb:Rm.broken true m1 d1 m2 d2 = 0
 ·have e:Rm.snum m1 d1 m2 d2 = Rm.partA true m1 d1 m2 d2+Rm.partB true m1 d1 m2 d2+(m1 / d1+m2 / d2) * Rm.sden true m1 d1 m2 d2:=by unfold Rm.snum; rw [if_pos hb]; omega
  rw [decide_eq_true hb] at HS
  have z5:=wadd_ok p (h.o (Rm.partA true m1 d1 m2 d2+Rm.partB true m1 d1 m2 d2+(m1 / d1+m2 / d2) * Rm.sden true m1 d1 m2 d2) (by omega))
  rw [← e] at z5
  exact ztog_f W p a1 a2 a3 a4 n1 n2 n3 n4 c1 c2 c3 c4 m1 d1 m2 d2 s _ _ _ _ _ _ _ _ _ _ hR h1 h2 h3 h4 (hide HS) (hide z1) (hide z3) (hide z4) (hide z5) (hide (wfr_ok p s _ _))
 ·have e:Rm.snum m1 d1 m2 d2 = Rm.partA true m1 d1 m2 d2+Rm.partB true m1 d1 m2 d2+1+(m1 / d1+m2 / d2) * Rm.sden true m1 d1 m2 d2:=by unfold Rm.snum; rw [if_neg hb]; omega
  rw [decide_eq_false hb] at HS
  have z2:=wadd_ok p (h.o (Rm.partA true m1 d1 m2 d2+Rm.partB true m1 d1 m2 d2+1) (by omega))
  have z5:=wadd_ok p (h.o (Rm.partA true m1 d1 m2 d2+Rm.partB true m1 d1 m2 d2+1+(m1 / d1+m2 / d2) * Rm.sden true m1 d1 m2 d2) (by omega))
  rw [← e] at z5
  exact ztog_t W p a1 a2 a3 a4 n1 n2 n3 n4 c1 c2 c3 c4 m1 d1 m2 d2 s _ _ _ _ _ _ _ _ _ _ _ hR h1 h2 h3 h4 (hide HS) (hide z1) (hide z2) (hide z3) (hide z4) (hide z5) (hide (wfr_ok p s _ _))
end Go.Proofs.YtpmmapoabbpaiaaGreat
