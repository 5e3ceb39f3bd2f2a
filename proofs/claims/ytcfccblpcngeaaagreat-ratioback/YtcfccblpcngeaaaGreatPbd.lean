/- Of what RatioBackRow stands on: RzApa. -/
import Derived.Test.YtcfccblpcngeaaaGreatPbc
namespace Go.Proofs.YtcfccblpcngeaaaGreat
open Go.RowKit
set_option maxHeartbeats 4000000
set_option maxRecDepth 20000
def WBel (p wa wb pa pb:Nat) (r:Bool):Prop:=∀ (W:World) (a1:Option Addr) (n1 c1:Nat) (a2:Option Addr) (n2 c2:Nat) (a3:Option Addr) (n3 c3:Nat) (a4:Option Addr) (n4 c4:Nat) (a5:Option Addr) (n5 c5:Nat) (b:Bool),Rz W p 0→Num W a1 n1 wa→Num W a2 n2 wb→Num W a3 n3 pa→Num W a4 n4 pb→Calls Tryz.prog 75 #[.agg #[.slice a1 n1 c1,.slice a2 n2 c2,.slice a3 n3 c3,.slice a4 n4 c4,.slice a5 n5 c5,.bool b],.pointer (some ⟨p,0,none⟩)] W fun en W'=>en = .returned (.bool r)∧Below W.heap.size W W'
theorem Num.znil (w:World):Num w none 0 0:=⟨[],rfl,Or.inl rfl,Pl.wf_nil,Pl.norm_nil,rfl,by omega⟩
theorem zbel_ne (w:World) (p:Nat) (a1 a2 a3 a4 a5:Option Addr) (n1 n2 n3 n4 n5 c1 c2 c3 c4 c5 wa wb pa pb:Nat) (b:Bool) (r1:Int) (g:Bool) (hR:Rz w p 0) (h1:Num w a1 n1 wa) (h2:Num w a2 n2 wb) (h3:Num w a3 n3 pa) (h4:Num w a4 n4 pb) (H1:Hid (WCmp p wa wb r1)) (hr:r1≠0) (hg:decide (r1 < 0) = g)  :
  Calls Tryz.prog 75 #[.agg #[.slice a1 n1 c1,.slice a2 n2 c2,.slice a3 n3 c3,.slice a4 n4 c4,.slice a5 n5 c5,.bool b],.pointer (some ⟨p,0,none⟩)] w fun en w'=>en = .returned (.bool g)∧Below w.heap.size w w':=by
 obtain ⟨cs9,t9_,hp,hp0⟩:=hR
 refine calls_sym Tryz.func75 rfl (by kernel_rfl) fun T hK=>?_
 replace hK:Kn T _ [(0,.agg #[.slice a1 n1 c1,.slice a2 n2 c2,.slice a3 n3 c3,.slice a4 n4 c4,.slice a5 n5 c5,.bool b]),(1,.pointer (some ⟨p,0,none⟩))]:=hK
 have hS:=Fb.other hp
 have hG:GsAt [gN a1 n1 wa,gN a2 n2 wb,gN a3 n3 pa,gN a4 n4 pb] w:=⟨h1,h2,h3,h4,trivial⟩
 refine wq hS hG hK (fun p1=>[.n 2 #[.slice a1 n1 c1,.slice a2 n2 c2,.slice a3 n3 c3,.slice a4 n4 c4,.slice a5 n5 c5,.bool b] 110,.v 4 (.bool false)]) (fun p1=>[(1,.pointer (some ⟨p,0,none⟩)),(2,pT (p1 0).N 0),(4,.bool false)]) (fun p1=>?_) (fun p1 W1 T hF hK=>?_)
 ·refine okn ?_
  refine okv ?_
  exact ok_nil
 replace hS:=SymF.fc hS hF [0,1000] [⟨p,cs9,t9_,false⟩,⟨(p1 0).N,#[.slice a1 n1 c1,.slice a2 n2 c2,.slice a3 n3 c3,.slice a4 n4 c4,.slice a5 n5 c5,.bool b],110,true⟩]
 replace hG:=hF.gx
 clear hF
 refine wp_seq ?_
 refine wq hS hG hK (fun p2=>[.v 6 (.pointer (some ⟨p,0,none⟩)),.v 7 (pT (p1 0).N 0),.l 8 (.agg #[.slice a1 n1 c1]) 1 0,.v 9 (pT (p1 0).N 1),.l 10 (.agg #[.slice a2 n2 c2]) 1 1,.c (some 11) (cV (.int .i64 r1)),.v 5 (.int .i64 r1)]) (fun p2=>[(1,.pointer (some ⟨p,0,none⟩)),(2,pT (p1 0).N 0),(4,.bool false),(5,.int .i64 r1)]) (fun p2=>?_) (fun p2 W2 T hF hK=>?_)
 ·iterate 2 refine okv ?_
  refine okl ?_
  refine okv ?_
  refine okl ?_
  refine okc (fun W cx=>as_v (unhide H1 _ _ _ c1 _ _ c2 ⟨_,_,cx.B 0 _ rfl (by kernel_rfl) (by kernel_rfl),hp0⟩ (cx.G.1) (cx.G.2.1))) ?_
  refine okv ?_
  exact ok_nil
 obtain ⟨hS,hG⟩:=SymF.fg hS hF
 clear hF
 refine wq hS hG hK (fun p3=>[.v 12 (.int .i64 r1),.v 13 (.bool true)]) (fun p3=>[(1,.pointer (some ⟨p,0,none⟩)),(2,pT (p1 0).N 0),(4,.bool false),(5,.int .i64 r1),(13,.bool true)]) (fun p3=>?_) (fun p3 W3 T hF hK=>?_)
 ·refine okv ?_
  refine okvb (bne_iff_ne.2 (show r1≠0 by omega)) ?_
  exact ok_nil
 obtain ⟨hS,hG⟩:=SymF.fg hS hF
 clear hF
 refine wp_cond_true (hK.ew 13) ?_
 refine wq hS hG hK (fun p4=>[.v 14 (.int .i64 r1),.v 15 (.bool g),.v 4 (.bool g)]) (fun p4=>[(1,.pointer (some ⟨p,0,none⟩)),(2,pT (p1 0).N 0),(4,.bool g)]) (fun p4=>?_) (fun p4 W4 T hF hK=>?_)
 ·refine okv ?_
  refine okvb (hg) ?_
  refine okv ?_
  exact ok_nil
 obtain ⟨hS,hG⟩:=SymF.fg hS hF
 clear hF
 refine wp_ret ?_
 refine then_r ?_
 exact sym_end hS hK (.bool g) [] [] (by kernel_rfl) (by kernel_rfl) ⟨rfl,hS.fr⟩
theorem zbel_eq (w:World) (p:Nat) (a1 a2 a3 a4 a5:Option Addr) (n1 n2 n3 n4 n5 c1 c2 c3 c4 c5 wa wb pa pb:Nat) (b:Bool) (r1 r2:Int) (g:Bool) (hR:Rz w p 0) (h1:Num w a1 n1 wa) (h2:Num w a2 n2 wb) (h3:Num w a3 n3 pa) (h4:Num w a4 n4 pb) (H1:Hid (WCmp p wa wb r1)) (hr:r1 = 0) (H2:Hid (WCmp p pa pb r2)) (hg:decide (r2 < 0) = g)  :
  Calls Tryz.prog 75 #[.agg #[.slice a1 n1 c1,.slice a2 n2 c2,.slice a3 n3 c3,.slice a4 n4 c4,.slice a5 n5 c5,.bool b],.pointer (some ⟨p,0,none⟩)] w fun en w'=>en = .returned (.bool g)∧Below w.heap.size w w':=by
 obtain ⟨cs9,t9_,hp,hp0⟩:=hR
 refine calls_sym Tryz.func75 rfl (by kernel_rfl) fun T hK=>?_
 replace hK:Kn T _ [(0,.agg #[.slice a1 n1 c1,.slice a2 n2 c2,.slice a3 n3 c3,.slice a4 n4 c4,.slice a5 n5 c5,.bool b]),(1,.pointer (some ⟨p,0,none⟩))]:=hK
 have hS:=Fb.other hp
 have hG:GsAt [gN a1 n1 wa,gN a2 n2 wb,gN a3 n3 pa,gN a4 n4 pb] w:=⟨h1,h2,h3,h4,trivial⟩
 refine wq hS hG hK (fun p1=>[.n 2 #[.slice a1 n1 c1,.slice a2 n2 c2,.slice a3 n3 c3,.slice a4 n4 c4,.slice a5 n5 c5,.bool b] 110,.v 4 (.bool false)]) (fun p1=>[(1,.pointer (some ⟨p,0,none⟩)),(2,pT (p1 0).N 0),(4,.bool false)]) (fun p1=>?_) (fun p1 W1 T hF hK=>?_)
 ·refine okn ?_
  refine okv ?_
  exact ok_nil
 replace hS:=SymF.fc hS hF [0,1000] [⟨p,cs9,t9_,false⟩,⟨(p1 0).N,#[.slice a1 n1 c1,.slice a2 n2 c2,.slice a3 n3 c3,.slice a4 n4 c4,.slice a5 n5 c5,.bool b],110,true⟩]
 replace hG:=hF.gx
 clear hF
 refine wp_seq ?_
 refine wq hS hG hK (fun p2=>[.v 6 (.pointer (some ⟨p,0,none⟩)),.v 7 (pT (p1 0).N 0),.l 8 (.agg #[.slice a1 n1 c1]) 1 0,.v 9 (pT (p1 0).N 1),.l 10 (.agg #[.slice a2 n2 c2]) 1 1,.c (some 11) (cV (.int .i64 r1)),.v 5 (.int .i64 r1)]) (fun p2=>[(1,.pointer (some ⟨p,0,none⟩)),(2,pT (p1 0).N 0),(4,.bool false),(5,.int .i64 r1)]) (fun p2=>?_) (fun p2 W2 T hF hK=>?_)
 ·iterate 2 refine okv ?_
  refine okl ?_
  refine okv ?_
  refine okl ?_
  refine okc (fun W cx=>as_v (unhide H1 _ _ _ c1 _ _ c2 ⟨_,_,cx.B 0 _ rfl (by kernel_rfl) (by kernel_rfl),hp0⟩ (cx.G.1) (cx.G.2.1))) ?_
  refine okv ?_
  exact ok_nil
 obtain ⟨hS,hG⟩:=SymF.fg hS hF
 clear hF
 refine wq hS hG hK (fun p3=>[.v 12 (.int .i64 r1),.v 13 (.bool false)]) (fun p3=>[(1,.pointer (some ⟨p,0,none⟩)),(2,pT (p1 0).N 0),(4,.bool false),(5,.int .i64 r1),(13,.bool false)]) (fun p3=>?_) (fun p3 W3 T hF hK=>?_)
 ·refine okv ?_
  refine okvb ((bne_eq_false_iff_eq.2 (show r1 = 0 by omega))) ?_
  exact ok_nil
 obtain ⟨hS,hG⟩:=SymF.fg hS hF
 clear hF
 refine wp_cond_false (hK.ew 13) (wp_skip (then_n ?_))
 refine wq hS hG hK (fun p4=>[.v 16 (.pointer (some ⟨p,0,none⟩)),.v 17 (pT (p1 0).N 2),.l 18 (.agg #[.slice a3 n3 c3]) 1 2,.v 19 (pT (p1 0).N 3),.l 20 (.agg #[.slice a4 n4 c4]) 1 3,.c (some 21) (cV (.int .i64 r2)),.v 22 (.bool g),.v 4 (.bool g)]) (fun p4=>[(4,.bool g),(5,.int .i64 r1)]) (fun p4=>?_) (fun p4 W4 T hF hK=>?_)
 ·iterate 2 refine okv ?_
  refine okl ?_
  refine okv ?_
  refine okl ?_
  refine okc (fun W cx=>as_v (unhide H2 _ _ _ c3 _ _ c4 ⟨_,_,cx.B 0 _ rfl (by kernel_rfl) (by kernel_rfl),hp0⟩ (cx.G.2.2.1) (cx.G.2.2.2.1))) ?_
  refine okvb (hg) ?_
  refine okv ?_
  exact ok_nil
 obtain ⟨hS,hG⟩:=SymF.fg hS hF
 clear hF
 refine wp_ret ?_
 exact sym_end hS hK (.bool g) [] [] (by kernel_rfl) (by kernel_rfl) ⟨rfl,hS.fr⟩
theorem zapa_tl (w:World) (p:Nat) (a1 a2 a3 a4:Option Addr) (n1 n2 n3 n4 c1 c2 c3 c4 m1 d1 m2 d2:Nat) (s t b g:Bool) (wa wb pa pb dn wh wi u v x y z:Nat) (r:Int) (hR:Rz w p 0) (h1:Num w a1 n1 m1) (h2:Num w a2 n2 d1) (h3:Num w a3 n3 m2) (h4:Num w a4 n4 d2) (HS:Hid (WSpl p s t m1 d1 m2 d2 wa wb pa pb dn b)) (HB:Hid (WBel p wa wb pa pb true)) (H1:Hid (WTwo 76 p wb wa wh)) (HC:Hid (WCmp p pb pa r)) (hr:r < 0) (H2:Hid (WTwo 76 p wh 1 wi)) (H3:Hid (WTwo 76 p dn pa u)) (H4:Hid (WTwo 37 p u pb v)) (H5:Hid (WTwo 52 p wi dn x)) (H6:Hid (WTwo 76 p v 0 y)) (H7:Hid (WTwo 37 p x y z)) (HF:Hid (WFr p t z dn g))  :
  Calls Tryz.prog 55 #[.pointer (some ⟨p,0,none⟩),.agg #[.bool s,.slice a1 n1 c1,.slice a2 n2 c2,.bool t,.slice a3 n3 c3,.slice a4 n4 c4]] w fun en w'=>(∃ A N C A' N' C',en = .returned (.tuple #[.agg #[.bool g,.slice A N C,.slice A' N' C'],.int .i64 0])∧Mine w' w.heap.size A N C z∧Mine w' w.heap.size A' N' C' dn)∧Below w.heap.size w w':=by
 obtain ⟨cs9,t9_,hp,hp0⟩:=hR
 refine calls_sym Tryz.func55 rfl (by kernel_rfl) fun T hK=>?_
 replace hK:Kn T _ [(0,.pointer (some ⟨p,0,none⟩)),(1,.agg #[.bool s,.slice a1 n1 c1,.slice a2 n2 c2,.bool t,.slice a3 n3 c3,.slice a4 n4 c4])]:=hK
 have hS:=Fb.other hp
 have hG:GsAt [gN a1 n1 m1,gN a2 n2 d1,gN a3 n3 m2,gN a4 n4 d2] w:=⟨h1,h2,h3,h4,trivial⟩
 refine wq hS hG hK (fun p1=>[.n 3 #[.bool s,.slice a1 n1 c1,.slice a2 n2 c2,.bool t,.slice a3 n3 c3,.slice a4 n4 c4] 66,.n 4 #[.bool false,.slice none 0 0,.slice none 0 0] 30,.v 5 (.int .i64 0)]) (fun p1=>[(0,.pointer (some ⟨p,0,none⟩)),(3,pT (p1 0).N 0),(4,pT (p1 1).N 0),(5,.int .i64 0)]) (fun p1=>?_) (fun p1 W1 T hF hK=>?_)
 ·iterate 2 refine okn ?_
  refine okv ?_
  exact ok_nil
 replace hS:=SymF.fc hS hF [0,1000,1001] [⟨p,cs9,t9_,false⟩,⟨(p1 0).N,#[.bool s,.slice a1 n1 c1,.slice a2 n2 c2,.bool t,.slice a3 n3 c3,.slice a4 n4 c4],66,true⟩,⟨(p1 1).N,#[.bool false,.slice none 0 0,.slice none 0 0],30,true⟩]
 replace hG:=hF.gx
 clear hF
 have z1:=hS.fr.size
 refine wq hS hG hK (fun p2=>[.v 10 (.pointer (some ⟨p,0,none⟩)),.l 11 (.agg #[.bool s,.slice a1 n1 c1,.slice a2 n2 c2,.bool t,.slice a3 n3 c3,.slice a4 n4 c4]) 1 0,.c (some 12) (c5 W1.heap.size wa wb pa pb dn b),.n 6 #[.slice none 0 0,.slice none 0 0,.slice none 0 0,.slice none 0 0,.slice none 0 0,.bool false] 110,.p 1003 0 [.slice (p2 2).A (p2 2).N (p2 2).C,.slice (p2 2).A' (p2 2).N' (p2 2).C',.slice (p2 2).A2 (p2 2).N2 (p2 2).C2,.slice (p2 2).A3 (p2 2).N3 (p2 2).C3,.slice (p2 2).A4 (p2 2).N4 (p2 2).C4,.bool b]]) (fun p2=>[(0,.pointer (some ⟨p,0,none⟩)),(3,pT (p1 0).N 0),(4,pT (p1 1).N 0),(5,.int .i64 0),(6,pT (p2 3).N 0)]) (fun p2=>?_) (fun p2 W2 T hF hK=>?_)
 ·refine okv ?_
  refine okl ?_
  refine okc (fun W cx=>as_5 cx.hb (unhide HS _ _ _ c1 _ _ c2 _ _ c3 _ _ c4 ⟨_,_,cx.B 0 _ rfl (by kernel_rfl) (by kernel_rfl),hp0⟩ (cx.G.1) (cx.G.2.1) (cx.G.2.2.1) (cx.G.2.2.2.1))) ?_
  refine okn ?_
  refine okp ?_
  exact ok_nil
 replace hS:=SymF.fc hS hF [0,1,2,1003] [⟨p,cs9,t9_,false⟩,⟨(p1 0).N,#[.bool s,.slice a1 n1 c1,.slice a2 n2 c2,.bool t,.slice a3 n3 c3,.slice a4 n4 c4],66,true⟩,⟨(p1 1).N,#[.bool false,.slice none 0 0,.slice none 0 0],30,true⟩,⟨(p2 3).N,#[.slice (p2 2).A (p2 2).N (p2 2).C,.slice (p2 2).A' (p2 2).N' (p2 2).C',.slice (p2 2).A2 (p2 2).N2 (p2 2).C2,.slice (p2 2).A3 (p2 2).N3 (p2 2).C3,.slice (p2 2).A4 (p2 2).N4 (p2 2).C4,.bool b],110,true⟩]
 replace hG:GsAt (gM W1.heap.size (p2 2).A (p2 2).N (p2 2).C wa :: gM W1.heap.size (p2 2).A' (p2 2).N' (p2 2).C' wb :: gM W1.heap.size (p2 2).A2 (p2 2).N2 (p2 2).C2 pa :: gM W1.heap.size (p2 2).A3 (p2 2).N3 (p2 2).C3 pb :: gM W1.heap.size (p2 2).A4 (p2 2).N4 (p2 2).C4 dn :: _) W2:=⟨(hF.fx 2).1,(hF.fx 2).2.1,(hF.fx 2).2.2.1,(hF.fx 2).2.2.2.1,(hF.fx 2).2.2.2.2,hF.gx⟩
 clear hF
 refine wq hS hG hK (fun p3=>[.v 13 (pT (p1 0).N 0),.v 14 (pT (p1 0).N 0),.l 15 (.bool s) 1 0,.v 7 (.bool s)]) (fun p3=>[(0,.pointer (some ⟨p,0,none⟩)),(3,pT (p1 0).N 0),(4,pT (p1 1).N 0),(5,.int .i64 0),(6,pT (p2 3).N 0),(7,.bool s)]) (fun p3=>?_) (fun p3 W3 T hF hK=>?_)
 ·iterate 2 refine okv ?_
  refine okl ?_
  refine okv ?_
  exact ok_nil
 obtain ⟨hS,hG⟩:=SymF.fg hS hF
 clear hF
 refine wp_seq ?_
 refine wq hS hG hK (fun p4=>[.l 16 (.agg #[.slice (p2 2).A (p2 2).N (p2 2).C,.slice (p2 2).A' (p2 2).N' (p2 2).C',.slice (p2 2).A2 (p2 2).N2 (p2 2).C2,.slice (p2 2).A3 (p2 2).N3 (p2 2).C3,.slice (p2 2).A4 (p2 2).N4 (p2 2).C4,.bool b]) 3 0,.v 17 (.pointer (some ⟨p,0,none⟩)),.c (some 18) (cV (.bool true))]) (fun p4=>[(0,.pointer (some ⟨p,0,none⟩)),(3,pT (p1 0).N 0),(4,pT (p1 1).N 0),(5,.int .i64 0),(6,pT (p2 3).N 0),(7,.bool s),(18,.bool true)]) (fun p4=>?_) (fun p4 W4 T hF hK=>?_)
 ·refine okl ?_
  refine okv ?_
  refine okc (fun W cx=>as_v (unhide HB _ (p2 2).A (p2 2).N (p2 2).C (p2 2).A' (p2 2).N' (p2 2).C' (p2 2).A2 (p2 2).N2 (p2 2).C2 (p2 2).A3 (p2 2).N3 (p2 2).C3 (p2 2).A4 (p2 2).N4 (p2 2).C4 b ⟨_,_,cx.B 0 _ rfl (by kernel_rfl) (by kernel_rfl),hp0⟩ (Mine.num cx.G.1) (Mine.num cx.G.2.1) (Mine.num cx.G.2.2.1) (Mine.num cx.G.2.2.2.1))) ?_
  exact ok_nil
 obtain ⟨hS,hG⟩:=SymF.fg hS hF
 clear hF
 refine wp_cond_true (hK.ew 18) ?_
 refine wq hS hG hK (fun p5=>[.v 19 (pT (p1 0).N 3),.v 20 (pT (p1 0).N 3),.l 21 (.bool t) 1 3,.v 7 (.bool t)]) (fun p5=>[(0,.pointer (some ⟨p,0,none⟩)),(4,pT (p1 1).N 0),(5,.int .i64 0),(6,pT (p2 3).N 0),(7,.bool t)]) (fun p5=>?_) (fun p5 W5 T hF hK=>?_)
 ·iterate 2 refine okv ?_
  refine okl ?_
  refine okv ?_
  exact ok_nil
 obtain ⟨hS,hG⟩:=SymF.fg hS hF
 clear hF
 refine wq hS hG hK (fun p6=>[.v 22 (pT (p2 3).N 1),.l 23 (.agg #[.slice (p2 2).A' (p2 2).N' (p2 2).C']) 3 1,.v 24 (pT (p2 3).N 0),.l 25 (.agg #[.slice (p2 2).A (p2 2).N (p2 2).C]) 3 0,.v 26 (pT (p2 3).N 0),.p 3 0 [.slice (p2 2).A' (p2 2).N' (p2 2).C'],.v 27 (pT (p2 3).N 1),.p 3 1 [.slice (p2 2).A (p2 2).N (p2 2).C]]) (fun p6=>[(0,.pointer (some ⟨p,0,none⟩)),(4,pT (p1 1).N 0),(5,.int .i64 0),(6,pT (p2 3).N 0),(7,.bool t)]) (fun p6=>?_) (fun p6 W6 T hF hK=>?_)
 ·refine okv ?_
  refine okl ?_
  refine okv ?_
  refine okl ?_
  refine okv ?_
  refine okp ?_
  refine okv ?_
  refine okp ?_
  exact ok_nil
 replace hS:=SymF.fc hS hF [0,2,3] [⟨p,cs9,t9_,false⟩,⟨(p1 1).N,#[.bool false,.slice none 0 0,.slice none 0 0],30,true⟩,⟨(p2 3).N,#[.slice (p2 2).A' (p2 2).N' (p2 2).C',.slice (p2 2).A (p2 2).N (p2 2).C,.slice (p2 2).A2 (p2 2).N2 (p2 2).C2,.slice (p2 2).A3 (p2 2).N3 (p2 2).C3,.slice (p2 2).A4 (p2 2).N4 (p2 2).C4,.bool b],110,true⟩]
 replace hG:=hF.gx
 clear hF
 refine wg hS hG hK (fun p7=>[.v 28 (pT (p2 3).N 3),.l 29 (.agg #[.slice (p2 2).A3 (p2 2).N3 (p2 2).C3]) 2 3,.v 30 (pT (p2 3).N 2),.l 31 (.agg #[.slice (p2 2).A2 (p2 2).N2 (p2 2).C2]) 2 2,.v 32 (pT (p2 3).N 2),.p 2 2 [.slice (p2 2).A3 (p2 2).N3 (p2 2).C3],.v 33 (pT (p2 3).N 3),.p 2 3 [.slice (p2 2).A2 (p2 2).N2 (p2 2).C2]]) (fun p7=>[(0,.pointer (some ⟨p,0,none⟩)),(4,pT (p1 1).N 0),(5,.int .i64 0),(6,pT (p2 3).N 0),(7,.bool t)]) (fun p7=>?_) (fun p7 W7 T hF hK=>?_)
 ·refine okv ?_
  refine okl ?_
  refine okv ?_
  refine okl ?_
  refine okv ?_
  refine okp ?_
  refine okv ?_
  refine okp ?_
  exact ok_nil
 replace hS:=SymF.fc hS hF [0,1,2] [⟨p,cs9,t9_,false⟩,⟨(p1 1).N,#[.bool false,.slice none 0 0,.slice none 0 0],30,true⟩,⟨(p2 3).N,#[.slice (p2 2).A' (p2 2).N' (p2 2).C',.slice (p2 2).A (p2 2).N (p2 2).C,.slice (p2 2).A3 (p2 2).N3 (p2 2).C3,.slice (p2 2).A2 (p2 2).N2 (p2 2).C2,.slice (p2 2).A4 (p2 2).N4 (p2 2).C4,.bool b],110,true⟩]
 replace hG:=hF.gx
 clear hF
 refine then_n ?_
 refine wq hS hG hK (fun p8=>[.v 34 (.pointer (some ⟨p,0,none⟩)),.v 35 (pT (p2 3).N 0),.l 36 (.agg #[.slice (p2 2).A' (p2 2).N' (p2 2).C']) 2 0,.v 37 (pT (p2 3).N 1),.l 38 (.agg #[.slice (p2 2).A (p2 2).N (p2 2).C]) 2 1,.c (some 39) (cN W7.heap.size wh),.n 8 #[.slice none 0 0] 28,.p 1006 0 [.slice (p8 5).A (p8 5).N (p8 5).C]]) (fun p8=>[(0,.pointer (some ⟨p,0,none⟩)),(4,pT (p1 1).N 0),(5,.int .i64 0),(6,pT (p2 3).N 0),(7,.bool t),(8,pT (p8 6).N 0)]) (fun p8=>?_) (fun p8 W8 T hF hK=>?_)
 ·iterate 2 refine okv ?_
  refine okl ?_
  refine okv ?_
  refine okl ?_
  refine okc (fun W cx=>as_n cx.hb (unhide H1 _ _ _ (p2 2).C' _ _ (p2 2).C ⟨_,_,cx.B 0 _ rfl (by kernel_rfl) (by kernel_rfl),hp0⟩ (Mine.num cx.G.2.1) (Mine.num cx.G.1))) ?_
  refine okn ?_
  refine okp ?_
  exact ok_nil
 replace hS:=SymF.fc hS hF [0,1,2,1006] [⟨p,cs9,t9_,false⟩,⟨(p1 1).N,#[.bool false,.slice none 0 0,.slice none 0 0],30,true⟩,⟨(p2 3).N,#[.slice (p2 2).A' (p2 2).N' (p2 2).C',.slice (p2 2).A (p2 2).N (p2 2).C,.slice (p2 2).A3 (p2 2).N3 (p2 2).C3,.slice (p2 2).A2 (p2 2).N2 (p2 2).C2,.slice (p2 2).A4 (p2 2).N4 (p2 2).C4,.bool b],110,true⟩,⟨(p8 6).N,#[.slice (p8 5).A (p8 5).N (p8 5).C],28,true⟩]
 replace hG:GsAt (gM W7.heap.size (p8 5).A (p8 5).N (p8 5).C wh :: _) W8:=⟨hF.fx 5,hF.gx⟩
 clear hF
 refine wp_seq ?_
 refine wq hS hG hK (fun p9=>[.v 40 (.pointer (some ⟨p,0,none⟩)),.v 41 (pT (p2 3).N 2),.l 42 (.agg #[.slice (p2 2).A3 (p2 2).N3 (p2 2).C3]) 2 2,.v 43 (pT (p2 3).N 3),.l 44 (.agg #[.slice (p2 2).A2 (p2 2).N2 (p2 2).C2]) 2 3,.c (some 45) (cV (.int .i64 r)),.v 46 (.bool true)]) (fun p9=>[(0,.pointer (some ⟨p,0,none⟩)),(4,pT (p1 1).N 0),(5,.int .i64 0),(6,pT (p2 3).N 0),(7,.bool t),(8,pT (p8 6).N 0),(46,.bool true)]) (fun p9=>?_) (fun p9 W9 T hF hK=>?_)
 ·iterate 2 refine okv ?_
  refine okl ?_
  refine okv ?_
  refine okl ?_
  refine okc (fun W cx=>as_v (unhide HC _ _ _ (p2 2).C3 _ _ (p2 2).C2 ⟨_,_,cx.B 0 _ rfl (by kernel_rfl) (by kernel_rfl),hp0⟩ (Mine.num cx.G.2.2.2.2.1) (Mine.num cx.G.2.2.2.1))) ?_
  refine okvb (decide_eq_true (show r < 0 by omega)) ?_
  exact ok_nil
 obtain ⟨hS,hG⟩:=SymF.fg hS hF
 clear hF
 refine wp_cond_true (hK.ew 46) ?_
 refine wq hS hG hK (fun p10=>[.v 47 (.pointer (some ⟨p,0,none⟩)),.l 48 (.agg #[.slice (p8 5).A (p8 5).N (p8 5).C]) 3 0,.c (some 49) (cN W9.heap.size 1),.c (some 50) (cN W9.heap.size wi),.p 3 0 [.slice (p10 3).A (p10 3).N (p10 3).C]]) (fun p10=>[(0,.pointer (some ⟨p,0,none⟩)),(4,pT (p1 1).N 0),(5,.int .i64 0),(6,pT (p2 3).N 0),(7,.bool t),(8,pT (p8 6).N 0)]) (fun p10=>?_) (fun p10 W10 T hF hK=>?_)
 ·refine okv ?_
  refine okl ?_
  refine okc (fun W cx=>as_n cx.hb (of_any 1 _ (by decide))) ?_
  refine okc (fun W cx=>as_n cx.hb (unhide H2 _ _ _ (p8 5).C _ _ (p10 2).C ⟨_,_,cx.B 0 _ rfl (by kernel_rfl) (by kernel_rfl),hp0⟩ (Mine.num cx.G.1) (Mine.num (cx.F 2 (by kernel_rfl))))) ?_
  refine okp ?_
  exact ok_nil
 replace hS:=SymF.fc hS hF [0,1,2,3] [⟨p,cs9,t9_,false⟩,⟨(p1 1).N,#[.bool false,.slice none 0 0,.slice none 0 0],30,true⟩,⟨(p2 3).N,#[.slice (p2 2).A' (p2 2).N' (p2 2).C',.slice (p2 2).A (p2 2).N (p2 2).C,.slice (p2 2).A3 (p2 2).N3 (p2 2).C3,.slice (p2 2).A2 (p2 2).N2 (p2 2).C2,.slice (p2 2).A4 (p2 2).N4 (p2 2).C4,.bool b],110,true⟩,⟨(p8 6).N,#[.slice (p10 3).A (p10 3).N (p10 3).C],28,true⟩]
 replace hG:GsAt (gM W9.heap.size (p10 2).A (p10 2).N (p10 2).C 1 :: gM W9.heap.size (p10 3).A (p10 3).N (p10 3).C wi :: _) W10:=⟨hF.fx 2,hF.fx 3,hF.gx⟩
 clear hF
 refine wq hS hG hK (fun p11=>[.v 51 (.pointer (some ⟨p,0,none⟩)),.v 52 (.pointer (some ⟨p,0,none⟩)),.v 53 (pT (p2 3).N 4),.l 54 (.agg #[.slice (p2 2).A4 (p2 2).N4 (p2 2).C4]) 2 4,.v 55 (pT (p2 3).N 3),.l 56 (.agg #[.slice (p2 2).A2 (p2 2).N2 (p2 2).C2]) 2 3,.c (some 57) (cN W10.heap.size u),.v 58 (pT (p2 3).N 2),.l 59 (.agg #[.slice (p2 2).A3 (p2 2).N3 (p2 2).C3]) 2 2,.c (some 60) (cN W10.heap.size v),.v 61 (pT (p2 3).N 2),.p 2 2 [.slice (p11 9).A (p11 9).N (p11 9).C]]) (fun p11=>[(0,.pointer (some ⟨p,0,none⟩)),(4,pT (p1 1).N 0),(5,.int .i64 0),(6,pT (p2 3).N 0),(7,.bool t),(8,pT (p8 6).N 0)]) (fun p11=>?_) (fun p11 W11 T hF hK=>?_)
 ·iterate 3 refine okv ?_
  refine okl ?_
  refine okv ?_
  refine okl ?_
  refine okc (fun W cx=>as_n cx.hb (unhide H3 _ _ _ (p2 2).C4 _ _ (p2 2).C2 ⟨_,_,cx.B 0 _ rfl (by kernel_rfl) (by kernel_rfl),hp0⟩ (Mine.num cx.G.2.2.2.2.2.2.2.1) (Mine.num cx.G.2.2.2.2.2.1))) ?_
  refine okv ?_
  refine okl ?_
  refine okc (fun W cx=>as_n cx.hb (unhide H4 _ _ _ (p11 6).C _ _ (p2 2).C3 ⟨_,_,cx.B 0 _ rfl (by kernel_rfl) (by kernel_rfl),hp0⟩ (Mine.num (cx.F 6 (by kernel_rfl))) (Mine.num cx.G.2.2.2.2.2.2.1))) ?_
  refine okv ?_
  refine okp ?_
  exact ok_nil
 replace hS:=SymF.fc hS hF [0,1,2,3] [⟨p,cs9,t9_,false⟩,⟨(p1 1).N,#[.bool false,.slice none 0 0,.slice none 0 0],30,true⟩,⟨(p2 3).N,#[.slice (p2 2).A' (p2 2).N' (p2 2).C',.slice (p2 2).A (p2 2).N (p2 2).C,.slice (p11 9).A (p11 9).N (p11 9).C,.slice (p2 2).A2 (p2 2).N2 (p2 2).C2,.slice (p2 2).A4 (p2 2).N4 (p2 2).C4,.bool b],110,true⟩,⟨(p8 6).N,#[.slice (p10 3).A (p10 3).N (p10 3).C],28,true⟩]
 replace hG:GsAt (gM W10.heap.size (p11 6).A (p11 6).N (p11 6).C u :: gM W10.heap.size (p11 9).A (p11 9).N (p11 9).C v :: _) W11:=⟨hF.fx 6,hF.fx 9,hF.gx⟩
 clear hF
 refine wg hS hG hK (fun p12=>[.v 62 (.agg #[.slice none 0 0]),.v 63 (pT (p2 3).N 3),.p 2 3 [.slice none 0 0]]) (fun p12=>[(0,.pointer (some ⟨p,0,none⟩)),(4,pT (p1 1).N 0),(5,.int .i64 0),(6,pT (p2 3).N 0),(7,.bool t),(8,pT (p8 6).N 0)]) (fun p12=>?_) (fun p12 W12 T hF hK=>?_)
 ·iterate 2 refine okv ?_
  refine okp ?_
  exact ok_nil
 replace hS:=SymF.fc hS hF [0,1,2,3] [⟨p,cs9,t9_,false⟩,⟨(p1 1).N,#[.bool false,.slice none 0 0,.slice none 0 0],30,true⟩,⟨(p2 3).N,#[.slice (p2 2).A' (p2 2).N' (p2 2).C',.slice (p2 2).A (p2 2).N (p2 2).C,.slice (p11 9).A (p11 9).N (p11 9).C,.slice none 0 0,.slice (p2 2).A4 (p2 2).N4 (p2 2).C4,.bool b],110,true⟩,⟨(p8 6).N,#[.slice (p10 3).A (p10 3).N (p10 3).C],28,true⟩]
 replace hG:=hF.gx
 clear hF
 have z12:=hS.fr.size
 refine then_n ?_
 refine wq hS hG hK (fun p13=>[.v 64 (.pointer (some ⟨p,0,none⟩)),.v 65 (.pointer (some ⟨p,0,none⟩)),.l 66 (.agg #[.slice (p10 3).A (p10 3).N (p10 3).C]) 3 0,.v 67 (pT (p2 3).N 4),.l 68 (.agg #[.slice (p2 2).A4 (p2 2).N4 (p2 2).C4]) 2 4,.c (some 69) (cN W12.heap.size x),.v 70 (.pointer (some ⟨p,0,none⟩)),.v 71 (pT (p2 3).N 2),.l 72 (.agg #[.slice (p11 9).A (p11 9).N (p11 9).C]) 2 2,.v 73 (pT (p2 3).N 3),.l 74 (.agg #[.slice none 0 0]) 2 3,.c (some 75) (cN W12.heap.size y),.c (some 76) (cN W12.heap.size z),.n 9 #[.slice none 0 0] 28,.p 1013 0 [.slice (p13 12).A (p13 12).N (p13 12).C]]) (fun p13=>[(0,.pointer (some ⟨p,0,none⟩)),(4,pT (p1 1).N 0),(5,.int .i64 0),(6,pT (p2 3).N 0),(7,.bool t),(9,pT (p13 13).N 0)]) (fun p13=>?_) (fun p13 W13 T hF hK=>?_)
 ·iterate 2 refine okv ?_
  refine okl ?_
  refine okv ?_
  refine okl ?_
  refine okc (fun W cx=>as_n cx.hb (unhide H5 _ _ _ (p10 3).C _ _ (p2 2).C4 ⟨_,_,cx.B 0 _ rfl (by kernel_rfl) (by kernel_rfl),hp0⟩ (Mine.num cx.G.2.2.2.1) (Mine.num cx.G.2.2.2.2.2.2.2.2.2.1))) ?_
  iterate 2 refine okv ?_
  refine okl ?_
  refine okv ?_
  refine okl ?_
  refine okc (fun W cx=>as_n cx.hb (unhide H6 _ _ _ (p11 9).C _ _ 0 ⟨_,_,cx.B 0 _ rfl (by kernel_rfl) (by kernel_rfl),hp0⟩ (Mine.num cx.G.2.1) (Num.znil _))) ?_
  refine okc (fun W cx=>as_n cx.hb (unhide H7 _ _ _ (p13 5).C _ _ (p13 11).C ⟨_,_,cx.B 0 _ rfl (by kernel_rfl) (by kernel_rfl),hp0⟩ (Mine.num (cx.F 5 (by kernel_rfl))) (Mine.num (cx.F 11 (by kernel_rfl))))) ?_
  refine okn ?_
  refine okp ?_
  exact ok_nil
 replace hS:=SymF.fc hS hF [0,1,2,1013] [⟨p,cs9,t9_,false⟩,⟨(p1 1).N,#[.bool false,.slice none 0 0,.slice none 0 0],30,true⟩,⟨(p2 3).N,#[.slice (p2 2).A' (p2 2).N' (p2 2).C',.slice (p2 2).A (p2 2).N (p2 2).C,.slice (p11 9).A (p11 9).N (p11 9).C,.slice none 0 0,.slice (p2 2).A4 (p2 2).N4 (p2 2).C4,.bool b],110,true⟩,⟨(p13 13).N,#[.slice (p13 12).A (p13 12).N (p13 12).C],28,true⟩]
 replace hG:GsAt (gM W12.heap.size (p13 5).A (p13 5).N (p13 5).C x :: gM W12.heap.size (p13 11).A (p13 11).N (p13 11).C y :: gM W12.heap.size (p13 12).A (p13 12).N (p13 12).C z :: _) W13:=⟨hF.fx 5,hF.fx 11,hF.fx 12,hF.gx⟩
 clear hF
 refine wq hS hG hK (fun p14=>[.v 77 (.pointer (some ⟨p,0,none⟩)),.v 78 (.bool t),.l 79 (.agg #[.slice (p13 12).A (p13 12).N (p13 12).C]) 3 0,.v 80 (pT (p2 3).N 4),.l 81 (.agg #[.slice (p2 2).A4 (p2 2).N4 (p2 2).C4]) 2 4,.c (some 82) (cV (.tuple #[.agg #[.bool g,.slice (p13 12).A (p13 12).N (p13 12).C,.slice (p2 2).A4 (p2 2).N4 (p2 2).C4],.int .i64 0])),.v 83 (.agg #[.bool g,.slice (p13 12).A (p13 12).N (p13 12).C,.slice (p2 2).A4 (p2 2).N4 (p2 2).C4]),.v 84 (.int .i64 0),.p 1 0 [.bool g,.slice (p13 12).A (p13 12).N (p13 12).C,.slice (p2 2).A4 (p2 2).N4 (p2 2).C4],.v 5 (.int .i64 0)]) (fun p14=>[(4,pT (p1 1).N 0),(5,.int .i64 0)]) (fun p14=>?_) (fun p14 W14 T hF hK=>?_)
 ·iterate 2 refine okv ?_
  refine okl ?_
  refine okv ?_
  refine okl ?_
  refine okc (fun W cx=>as_v (unhide HF _ _ _ (p13 12).C _ _ (p2 2).C4 ⟨_,_,cx.B 0 _ rfl (by kernel_rfl) (by kernel_rfl),hp0⟩ (Mine.num cx.G.2.2.1) (Mine.num cx.G.2.2.2.2.2.2.2.2.2.2.2.2.1))) ?_
  iterate 2 refine okv ?_
  refine okp ?_
  refine okv ?_
  exact ok_nil
 replace hS:=SymF.fc hS hF [0,1] [⟨p,cs9,t9_,false⟩,⟨(p1 1).N,#[.bool g,.slice (p13 12).A (p13 12).N (p13 12).C,.slice (p2 2).A4 (p2 2).N4 (p2 2).C4],30,true⟩]
 replace hG:=hF.gx
 clear hF
 refine wp_ret ?_
 exact sym_end hS hK (.tuple #[.agg #[.bool g,.slice (p13 12).A (p13 12).N (p13 12).C,.slice (p2 2).A4 (p2 2).N4 (p2 2).C4],.int .i64 0]) [(1,0,3)] [.bool g,.slice (p13 12).A (p13 12).N (p13 12).C,.slice (p2 2).A4 (p2 2).N4 (p2 2).C4] (by kernel_rfl) (by kernel_rfl) ⟨⟨_,_,_,_,_,_,rfl,Mine.mono hG.2.2.1 z12,Mine.mono hG.2.2.2.2.2.2.2.2.2.2.2.2.1 z1⟩,hS.fr⟩
theorem zapa_tg (w:World) (p:Nat) (a1 a2 a3 a4:Option Addr) (n1 n2 n3 n4 c1 c2 c3 c4 m1 d1 m2 d2:Nat) (s t b g:Bool) (wa wb pa pb dn wh x y z:Nat) (r:Int) (hR:Rz w p 0) (h1:Num w a1 n1 m1) (h2:Num w a2 n2 d1) (h3:Num w a3 n3 m2) (h4:Num w a4 n4 d2) (HS:Hid (WSpl p s t m1 d1 m2 d2 wa wb pa pb dn b)) (HB:Hid (WBel p wa wb pa pb true)) (H1:Hid (WTwo 76 p wb wa wh)) (HC:Hid (WCmp p pb pa r)) (hr:0≤r) (H5:Hid (WTwo 52 p wh dn x)) (H6:Hid (WTwo 76 p pb pa y)) (H7:Hid (WTwo 37 p x y z)) (HF:Hid (WFr p t z dn g))  :
  Calls Tryz.prog 55 #[.pointer (some ⟨p,0,none⟩),.agg #[.bool s,.slice a1 n1 c1,.slice a2 n2 c2,.bool t,.slice a3 n3 c3,.slice a4 n4 c4]] w fun en w'=>(∃ A N C A' N' C',en = .returned (.tuple #[.agg #[.bool g,.slice A N C,.slice A' N' C'],.int .i64 0])∧Mine w' w.heap.size A N C z∧Mine w' w.heap.size A' N' C' dn)∧Below w.heap.size w w':=by
 obtain ⟨cs9,t9_,hp,hp0⟩:=hR
 refine calls_sym Tryz.func55 rfl (by kernel_rfl) fun T hK=>?_
 replace hK:Kn T _ [(0,.pointer (some ⟨p,0,none⟩)),(1,.agg #[.bool s,.slice a1 n1 c1,.slice a2 n2 c2,.bool t,.slice a3 n3 c3,.slice a4 n4 c4])]:=hK
 have hS:=Fb.other hp
 have hG:GsAt [gN a1 n1 m1,gN a2 n2 d1,gN a3 n3 m2,gN a4 n4 d2] w:=⟨h1,h2,h3,h4,trivial⟩
 refine wq hS hG hK (fun p1=>[.n 3 #[.bool s,.slice a1 n1 c1,.slice a2 n2 c2,.bool t,.slice a3 n3 c3,.slice a4 n4 c4] 66,.n 4 #[.bool false,.slice none 0 0,.slice none 0 0] 30,.v 5 (.int .i64 0)]) (fun p1=>[(0,.pointer (some ⟨p,0,none⟩)),(3,pT (p1 0).N 0),(4,pT (p1 1).N 0),(5,.int .i64 0)]) (fun p1=>?_) (fun p1 W1 T hF hK=>?_)
 ·iterate 2 refine okn ?_
  refine okv ?_
  exact ok_nil
 replace hS:=SymF.fc hS hF [0,1000,1001] [⟨p,cs9,t9_,false⟩,⟨(p1 0).N,#[.bool s,.slice a1 n1 c1,.slice a2 n2 c2,.bool t,.slice a3 n3 c3,.slice a4 n4 c4],66,true⟩,⟨(p1 1).N,#[.bool false,.slice none 0 0,.slice none 0 0],30,true⟩]
 replace hG:=hF.gx
 clear hF
 have z1:=hS.fr.size
 refine wq hS hG hK (fun p2=>[.v 10 (.pointer (some ⟨p,0,none⟩)),.l 11 (.agg #[.bool s,.slice a1 n1 c1,.slice a2 n2 c2,.bool t,.slice a3 n3 c3,.slice a4 n4 c4]) 1 0,.c (some 12) (c5 W1.heap.size wa wb pa pb dn b),.n 6 #[.slice none 0 0,.slice none 0 0,.slice none 0 0,.slice none 0 0,.slice none 0 0,.bool false] 110,.p 1003 0 [.slice (p2 2).A (p2 2).N (p2 2).C,.slice (p2 2).A' (p2 2).N' (p2 2).C',.slice (p2 2).A2 (p2 2).N2 (p2 2).C2,.slice (p2 2).A3 (p2 2).N3 (p2 2).C3,.slice (p2 2).A4 (p2 2).N4 (p2 2).C4,.bool b]]) (fun p2=>[(0,.pointer (some ⟨p,0,none⟩)),(3,pT (p1 0).N 0),(4,pT (p1 1).N 0),(5,.int .i64 0),(6,pT (p2 3).N 0)]) (fun p2=>?_) (fun p2 W2 T hF hK=>?_)
 ·refine okv ?_
  refine okl ?_
  refine okc (fun W cx=>as_5 cx.hb (unhide HS _ _ _ c1 _ _ c2 _ _ c3 _ _ c4 ⟨_,_,cx.B 0 _ rfl (by kernel_rfl) (by kernel_rfl),hp0⟩ (cx.G.1) (cx.G.2.1) (cx.G.2.2.1) (cx.G.2.2.2.1))) ?_
  refine okn ?_
  refine okp ?_
  exact ok_nil
 replace hS:=SymF.fc hS hF [0,1,2,1003] [⟨p,cs9,t9_,false⟩,⟨(p1 0).N,#[.bool s,.slice a1 n1 c1,.slice a2 n2 c2,.bool t,.slice a3 n3 c3,.slice a4 n4 c4],66,true⟩,⟨(p1 1).N,#[.bool false,.slice none 0 0,.slice none 0 0],30,true⟩,⟨(p2 3).N,#[.slice (p2 2).A (p2 2).N (p2 2).C,.slice (p2 2).A' (p2 2).N' (p2 2).C',.slice (p2 2).A2 (p2 2).N2 (p2 2).C2,.slice (p2 2).A3 (p2 2).N3 (p2 2).C3,.slice (p2 2).A4 (p2 2).N4 (p2 2).C4,.bool b],110,true⟩]
 replace hG:GsAt (gM W1.heap.size (p2 2).A (p2 2).N (p2 2).C wa :: gM W1.heap.size (p2 2).A' (p2 2).N' (p2 2).C' wb :: gM W1.heap.size (p2 2).A2 (p2 2).N2 (p2 2).C2 pa :: gM W1.heap.size (p2 2).A3 (p2 2).N3 (p2 2).C3 pb :: gM W1.heap.size (p2 2).A4 (p2 2).N4 (p2 2).C4 dn :: _) W2:=⟨(hF.fx 2).1,(hF.fx 2).2.1,(hF.fx 2).2.2.1,(hF.fx 2).2.2.2.1,(hF.fx 2).2.2.2.2,hF.gx⟩
 clear hF
 refine wq hS hG hK (fun p3=>[.v 13 (pT (p1 0).N 0),.v 14 (pT (p1 0).N 0),.l 15 (.bool s) 1 0,.v 7 (.bool s)]) (fun p3=>[(0,.pointer (some ⟨p,0,none⟩)),(3,pT (p1 0).N 0),(4,pT (p1 1).N 0),(5,.int .i64 0),(6,pT (p2 3).N 0),(7,.bool s)]) (fun p3=>?_) (fun p3 W3 T hF hK=>?_)
 ·iterate 2 refine okv ?_
  refine okl ?_
  refine okv ?_
  exact ok_nil
 obtain ⟨hS,hG⟩:=SymF.fg hS hF
 clear hF
 refine wp_seq ?_
 refine wq hS hG hK (fun p4=>[.l 16 (.agg #[.slice (p2 2).A (p2 2).N (p2 2).C,.slice (p2 2).A' (p2 2).N' (p2 2).C',.slice (p2 2).A2 (p2 2).N2 (p2 2).C2,.slice (p2 2).A3 (p2 2).N3 (p2 2).C3,.slice (p2 2).A4 (p2 2).N4 (p2 2).C4,.bool b]) 3 0,.v 17 (.pointer (some ⟨p,0,none⟩)),.c (some 18) (cV (.bool true))]) (fun p4=>[(0,.pointer (some ⟨p,0,none⟩)),(3,pT (p1 0).N 0),(4,pT (p1 1).N 0),(5,.int .i64 0),(6,pT (p2 3).N 0),(7,.bool s),(18,.bool true)]) (fun p4=>?_) (fun p4 W4 T hF hK=>?_)
 ·refine okl ?_
  refine okv ?_
  refine okc (fun W cx=>as_v (unhide HB _ (p2 2).A (p2 2).N (p2 2).C (p2 2).A' (p2 2).N' (p2 2).C' (p2 2).A2 (p2 2).N2 (p2 2).C2 (p2 2).A3 (p2 2).N3 (p2 2).C3 (p2 2).A4 (p2 2).N4 (p2 2).C4 b ⟨_,_,cx.B 0 _ rfl (by kernel_rfl) (by kernel_rfl),hp0⟩ (Mine.num cx.G.1) (Mine.num cx.G.2.1) (Mine.num cx.G.2.2.1) (Mine.num cx.G.2.2.2.1))) ?_
  exact ok_nil
 obtain ⟨hS,hG⟩:=SymF.fg hS hF
 clear hF
 refine wp_cond_true (hK.ew 18) ?_
 refine wq hS hG hK (fun p5=>[.v 19 (pT (p1 0).N 3),.v 20 (pT (p1 0).N 3),.l 21 (.bool t) 1 3,.v 7 (.bool t)]) (fun p5=>[(0,.pointer (some ⟨p,0,none⟩)),(4,pT (p1 1).N 0),(5,.int .i64 0),(6,pT (p2 3).N 0),(7,.bool t)]) (fun p5=>?_) (fun p5 W5 T hF hK=>?_)
 ·iterate 2 refine okv ?_
  refine okl ?_
  refine okv ?_
  exact ok_nil
 obtain ⟨hS,hG⟩:=SymF.fg hS hF
 clear hF
 refine wq hS hG hK (fun p6=>[.v 22 (pT (p2 3).N 1),.l 23 (.agg #[.slice (p2 2).A' (p2 2).N' (p2 2).C']) 3 1,.v 24 (pT (p2 3).N 0),.l 25 (.agg #[.slice (p2 2).A (p2 2).N (p2 2).C]) 3 0,.v 26 (pT (p2 3).N 0),.p 3 0 [.slice (p2 2).A' (p2 2).N' (p2 2).C'],.v 27 (pT (p2 3).N 1),.p 3 1 [.slice (p2 2).A (p2 2).N (p2 2).C]]) (fun p6=>[(0,.pointer (some ⟨p,0,none⟩)),(4,pT (p1 1).N 0),(5,.int .i64 0),(6,pT (p2 3).N 0),(7,.bool t)]) (fun p6=>?_) (fun p6 W6 T hF hK=>?_)
 ·refine okv ?_
  refine okl ?_
  refine okv ?_
  refine okl ?_
  refine okv ?_
  refine okp ?_
  refine okv ?_
  refine okp ?_
  exact ok_nil
 replace hS:=SymF.fc hS hF [0,2,3] [⟨p,cs9,t9_,false⟩,⟨(p1 1).N,#[.bool false,.slice none 0 0,.slice none 0 0],30,true⟩,⟨(p2 3).N,#[.slice (p2 2).A' (p2 2).N' (p2 2).C',.slice (p2 2).A (p2 2).N (p2 2).C,.slice (p2 2).A2 (p2 2).N2 (p2 2).C2,.slice (p2 2).A3 (p2 2).N3 (p2 2).C3,.slice (p2 2).A4 (p2 2).N4 (p2 2).C4,.bool b],110,true⟩]
 replace hG:=hF.gx
 clear hF
 refine wg hS hG hK (fun p7=>[.v 28 (pT (p2 3).N 3),.l 29 (.agg #[.slice (p2 2).A3 (p2 2).N3 (p2 2).C3]) 2 3,.v 30 (pT (p2 3).N 2),.l 31 (.agg #[.slice (p2 2).A2 (p2 2).N2 (p2 2).C2]) 2 2,.v 32 (pT (p2 3).N 2),.p 2 2 [.slice (p2 2).A3 (p2 2).N3 (p2 2).C3],.v 33 (pT (p2 3).N 3),.p 2 3 [.slice (p2 2).A2 (p2 2).N2 (p2 2).C2]]) (fun p7=>[(0,.pointer (some ⟨p,0,none⟩)),(4,pT (p1 1).N 0),(5,.int .i64 0),(6,pT (p2 3).N 0),(7,.bool t)]) (fun p7=>?_) (fun p7 W7 T hF hK=>?_)
 ·refine okv ?_
  refine okl ?_
  refine okv ?_
  refine okl ?_
  refine okv ?_
  refine okp ?_
  refine okv ?_
  refine okp ?_
  exact ok_nil
 replace hS:=SymF.fc hS hF [0,1,2] [⟨p,cs9,t9_,false⟩,⟨(p1 1).N,#[.bool false,.slice none 0 0,.slice none 0 0],30,true⟩,⟨(p2 3).N,#[.slice (p2 2).A' (p2 2).N' (p2 2).C',.slice (p2 2).A (p2 2).N (p2 2).C,.slice (p2 2).A3 (p2 2).N3 (p2 2).C3,.slice (p2 2).A2 (p2 2).N2 (p2 2).C2,.slice (p2 2).A4 (p2 2).N4 (p2 2).C4,.bool b],110,true⟩]
 replace hG:=hF.gx
 clear hF
 refine then_n ?_
 refine wq hS hG hK (fun p8=>[.v 34 (.pointer (some ⟨p,0,none⟩)),.v 35 (pT (p2 3).N 0),.l 36 (.agg #[.slice (p2 2).A' (p2 2).N' (p2 2).C']) 2 0,.v 37 (pT (p2 3).N 1),.l 38 (.agg #[.slice (p2 2).A (p2 2).N (p2 2).C]) 2 1,.c (some 39) (cN W7.heap.size wh),.n 8 #[.slice none 0 0] 28,.p 1006 0 [.slice (p8 5).A (p8 5).N (p8 5).C]]) (fun p8=>[(0,.pointer (some ⟨p,0,none⟩)),(4,pT (p1 1).N 0),(5,.int .i64 0),(6,pT (p2 3).N 0),(7,.bool t),(8,pT (p8 6).N 0)]) (fun p8=>?_) (fun p8 W8 T hF hK=>?_)
 ·iterate 2 refine okv ?_
  refine okl ?_
  refine okv ?_
  refine okl ?_
  refine okc (fun W cx=>as_n cx.hb (unhide H1 _ _ _ (p2 2).C' _ _ (p2 2).C ⟨_,_,cx.B 0 _ rfl (by kernel_rfl) (by kernel_rfl),hp0⟩ (Mine.num cx.G.2.1) (Mine.num cx.G.1))) ?_
  refine okn ?_
  refine okp ?_
  exact ok_nil
 replace hS:=SymF.fc hS hF [0,1,2,1006] [⟨p,cs9,t9_,false⟩,⟨(p1 1).N,#[.bool false,.slice none 0 0,.slice none 0 0],30,true⟩,⟨(p2 3).N,#[.slice (p2 2).A' (p2 2).N' (p2 2).C',.slice (p2 2).A (p2 2).N (p2 2).C,.slice (p2 2).A3 (p2 2).N3 (p2 2).C3,.slice (p2 2).A2 (p2 2).N2 (p2 2).C2,.slice (p2 2).A4 (p2 2).N4 (p2 2).C4,.bool b],110,true⟩,⟨(p8 6).N,#[.slice (p8 5).A (p8 5).N (p8 5).C],28,true⟩]
 replace hG:GsAt (gM W7.heap.size (p8 5).A (p8 5).N (p8 5).C wh :: _) W8:=⟨hF.fx 5,hF.gx⟩
 clear hF
 refine wp_seq ?_
 refine wq hS hG hK (fun p9=>[.v 40 (.pointer (some ⟨p,0,none⟩)),.v 41 (pT (p2 3).N 2),.l 42 (.agg #[.slice (p2 2).A3 (p2 2).N3 (p2 2).C3]) 2 2,.v 43 (pT (p2 3).N 3),.l 44 (.agg #[.slice (p2 2).A2 (p2 2).N2 (p2 2).C2]) 2 3,.c (some 45) (cV (.int .i64 r)),.v 46 (.bool false)]) (fun p9=>[(0,.pointer (some ⟨p,0,none⟩)),(4,pT (p1 1).N 0),(5,.int .i64 0),(6,pT (p2 3).N 0),(7,.bool t),(8,pT (p8 6).N 0),(46,.bool false)]) (fun p9=>?_) (fun p9 W9 T hF hK=>?_)
 ·iterate 2 refine okv ?_
  refine okl ?_
  refine okv ?_
  refine okl ?_
  refine okc (fun W cx=>as_v (unhide HC _ _ _ (p2 2).C3 _ _ (p2 2).C2 ⟨_,_,cx.B 0 _ rfl (by kernel_rfl) (by kernel_rfl),hp0⟩ (Mine.num cx.G.2.2.2.2.1) (Mine.num cx.G.2.2.2.1))) ?_
  refine okvb (decide_eq_false (show ¬ r < 0 by omega)) ?_
  exact ok_nil
 obtain ⟨hS,hG⟩:=SymF.fg hS hF
 clear hF
 have z9:=hS.fr.size
 refine wp_cond_false (hK.ew 46) (wp_skip (then_n ?_))
 refine wq hS hG hK (fun p10=>[.v 64 (.pointer (some ⟨p,0,none⟩)),.v 65 (.pointer (some ⟨p,0,none⟩)),.l 66 (.agg #[.slice (p8 5).A (p8 5).N (p8 5).C]) 3 0,.v 67 (pT (p2 3).N 4),.l 68 (.agg #[.slice (p2 2).A4 (p2 2).N4 (p2 2).C4]) 2 4,.c (some 69) (cN W9.heap.size x),.v 70 (.pointer (some ⟨p,0,none⟩)),.v 71 (pT (p2 3).N 2),.l 72 (.agg #[.slice (p2 2).A3 (p2 2).N3 (p2 2).C3]) 2 2,.v 73 (pT (p2 3).N 3),.l 74 (.agg #[.slice (p2 2).A2 (p2 2).N2 (p2 2).C2]) 2 3,.c (some 75) (cN W9.heap.size y),.c (some 76) (cN W9.heap.size z),.n 9 #[.slice none 0 0] 28,.p 1013 0 [.slice (p10 12).A (p10 12).N (p10 12).C]]) (fun p10=>[(0,.pointer (some ⟨p,0,none⟩)),(4,pT (p1 1).N 0),(5,.int .i64 0),(6,pT (p2 3).N 0),(7,.bool t),(8,pT (p8 6).N 0),(9,pT (p10 13).N 0)]) (fun p10=>?_) (fun p10 W10 T hF hK=>?_)
 ·iterate 2 refine okv ?_
  refine okl ?_
  refine okv ?_
  refine okl ?_
  refine okc (fun W cx=>as_n cx.hb (unhide H5 _ _ _ (p8 5).C _ _ (p2 2).C4 ⟨_,_,cx.B 0 _ rfl (by kernel_rfl) (by kernel_rfl),hp0⟩ (Mine.num cx.G.1) (Mine.num cx.G.2.2.2.2.2.1))) ?_
  iterate 2 refine okv ?_
  refine okl ?_
  refine okv ?_
  refine okl ?_
  refine okc (fun W cx=>as_n cx.hb (unhide H6 _ _ _ (p2 2).C3 _ _ (p2 2).C2 ⟨_,_,cx.B 0 _ rfl (by kernel_rfl) (by kernel_rfl),hp0⟩ (Mine.num cx.G.2.2.2.2.1) (Mine.num cx.G.2.2.2.1))) ?_
  refine okc (fun W cx=>as_n cx.hb (unhide H7 _ _ _ (p10 5).C _ _ (p10 11).C ⟨_,_,cx.B 0 _ rfl (by kernel_rfl) (by kernel_rfl),hp0⟩ (Mine.num (cx.F 5 (by kernel_rfl))) (Mine.num (cx.F 11 (by kernel_rfl))))) ?_
  refine okn ?_
  refine okp ?_
  exact ok_nil
 replace hS:=SymF.fc hS hF [0,1,2,3,1013] [⟨p,cs9,t9_,false⟩,⟨(p1 1).N,#[.bool false,.slice none 0 0,.slice none 0 0],30,true⟩,⟨(p2 3).N,#[.slice (p2 2).A' (p2 2).N' (p2 2).C',.slice (p2 2).A (p2 2).N (p2 2).C,.slice (p2 2).A3 (p2 2).N3 (p2 2).C3,.slice (p2 2).A2 (p2 2).N2 (p2 2).C2,.slice (p2 2).A4 (p2 2).N4 (p2 2).C4,.bool b],110,true⟩,⟨(p8 6).N,#[.slice (p8 5).A (p8 5).N (p8 5).C],28,true⟩,⟨(p10 13).N,#[.slice (p10 12).A (p10 12).N (p10 12).C],28,true⟩]
 replace hG:GsAt (gM W9.heap.size (p10 5).A (p10 5).N (p10 5).C x :: gM W9.heap.size (p10 11).A (p10 11).N (p10 11).C y :: gM W9.heap.size (p10 12).A (p10 12).N (p10 12).C z :: _) W10:=⟨hF.fx 5,hF.fx 11,hF.fx 12,hF.gx⟩
 clear hF
 refine wq hS hG hK (fun p11=>[.v 77 (.pointer (some ⟨p,0,none⟩)),.v 78 (.bool t),.l 79 (.agg #[.slice (p10 12).A (p10 12).N (p10 12).C]) 4 0,.v 80 (pT (p2 3).N 4),.l 81 (.agg #[.slice (p2 2).A4 (p2 2).N4 (p2 2).C4]) 2 4,.c (some 82) (cV (.tuple #[.agg #[.bool g,.slice (p10 12).A (p10 12).N (p10 12).C,.slice (p2 2).A4 (p2 2).N4 (p2 2).C4],.int .i64 0])),.v 83 (.agg #[.bool g,.slice (p10 12).A (p10 12).N (p10 12).C,.slice (p2 2).A4 (p2 2).N4 (p2 2).C4]),.v 84 (.int .i64 0),.p 1 0 [.bool g,.slice (p10 12).A (p10 12).N (p10 12).C,.slice (p2 2).A4 (p2 2).N4 (p2 2).C4],.v 5 (.int .i64 0)]) (fun p11=>[(0,.pointer (some ⟨p,0,none⟩)),(4,pT (p1 1).N 0),(5,.int .i64 0),(6,pT (p2 3).N 0),(8,pT (p8 6).N 0)]) (fun p11=>?_) (fun p11 W11 T hF hK=>?_)
 ·iterate 2 refine okv ?_
  refine okl ?_
  refine okv ?_
  refine okl ?_
  refine okc (fun W cx=>as_v (unhide HF _ _ _ (p10 12).C _ _ (p2 2).C4 ⟨_,_,cx.B 0 _ rfl (by kernel_rfl) (by kernel_rfl),hp0⟩ (Mine.num cx.G.2.2.1) (Mine.num cx.G.2.2.2.2.2.2.2.2.1))) ?_
  iterate 2 refine okv ?_
  refine okp ?_
  refine okv ?_
  exact ok_nil
 replace hS:=SymF.fc hS hF [0,1,2,3] [⟨p,cs9,t9_,false⟩,⟨(p1 1).N,#[.bool g,.slice (p10 12).A (p10 12).N (p10 12).C,.slice (p2 2).A4 (p2 2).N4 (p2 2).C4],30,true⟩,⟨(p2 3).N,#[.slice (p2 2).A' (p2 2).N' (p2 2).C',.slice (p2 2).A (p2 2).N (p2 2).C,.slice (p2 2).A3 (p2 2).N3 (p2 2).C3,.slice (p2 2).A2 (p2 2).N2 (p2 2).C2,.slice (p2 2).A4 (p2 2).N4 (p2 2).C4,.bool b],110,true⟩,⟨(p8 6).N,#[.slice (p8 5).A (p8 5).N (p8 5).C],28,true⟩]
 replace hG:=hF.gx
 clear hF
 refine wp_ret ?_
 exact sym_end hS hK (.tuple #[.agg #[.bool g,.slice (p10 12).A (p10 12).N (p10 12).C,.slice (p2 2).A4 (p2 2).N4 (p2 2).C4],.int .i64 0]) [(1,0,3)] [.bool g,.slice (p10 12).A (p10 12).N (p10 12).C,.slice (p2 2).A4 (p2 2).N4 (p2 2).C4] (by kernel_rfl) (by kernel_rfl) ⟨⟨_,_,_,_,_,_,rfl,Mine.mono hG.2.2.1 z9,Mine.mono hG.2.2.2.2.2.2.2.2.1 z1⟩,hS.fr⟩
theorem zapa_fl (w:World) (p:Nat) (a1 a2 a3 a4:Option Addr) (n1 n2 n3 n4 c1 c2 c3 c4 m1 d1 m2 d2:Nat) (s t b g:Bool) (wa wb pa pb dn wh wi u v x y z:Nat) (r:Int) (hR:Rz w p 0) (h1:Num w a1 n1 m1) (h2:Num w a2 n2 d1) (h3:Num w a3 n3 m2) (h4:Num w a4 n4 d2) (HS:Hid (WSpl p s t m1 d1 m2 d2 wa wb pa pb dn b)) (HB:Hid (WBel p wa wb pa pb false)) (H1:Hid (WTwo 76 p wa wb wh)) (HC:Hid (WCmp p pa pb r)) (hr:r < 0) (H2:Hid (WTwo 76 p wh 1 wi)) (H3:Hid (WTwo 76 p dn pb u)) (H4:Hid (WTwo 37 p u pa v)) (H5:Hid (WTwo 52 p wi dn x)) (H6:Hid (WTwo 76 p v 0 y)) (H7:Hid (WTwo 37 p x y z)) (HF:Hid (WFr p s z dn g))  :
  Calls Tryz.prog 55 #[.pointer (some ⟨p,0,none⟩),.agg #[.bool s,.slice a1 n1 c1,.slice a2 n2 c2,.bool t,.slice a3 n3 c3,.slice a4 n4 c4]] w fun en w'=>(∃ A N C A' N' C',en = .returned (.tuple #[.agg #[.bool g,.slice A N C,.slice A' N' C'],.int .i64 0])∧Mine w' w.heap.size A N C z∧Mine w' w.heap.size A' N' C' dn)∧Below w.heap.size w w':=by
 obtain ⟨cs9,t9_,hp,hp0⟩:=hR
 refine calls_sym Tryz.func55 rfl (by kernel_rfl) fun T hK=>?_
 replace hK:Kn T _ [(0,.pointer (some ⟨p,0,none⟩)),(1,.agg #[.bool s,.slice a1 n1 c1,.slice a2 n2 c2,.bool t,.slice a3 n3 c3,.slice a4 n4 c4])]:=hK
 have hS:=Fb.other hp
 have hG:GsAt [gN a1 n1 m1,gN a2 n2 d1,gN a3 n3 m2,gN a4 n4 d2] w:=⟨h1,h2,h3,h4,trivial⟩
 refine wq hS hG hK (fun p1=>[.n 3 #[.bool s,.slice a1 n1 c1,.slice a2 n2 c2,.bool t,.slice a3 n3 c3,.slice a4 n4 c4] 66,.n 4 #[.bool false,.slice none 0 0,.slice none 0 0] 30,.v 5 (.int .i64 0)]) (fun p1=>[(0,.pointer (some ⟨p,0,none⟩)),(3,pT (p1 0).N 0),(4,pT (p1 1).N 0),(5,.int .i64 0)]) (fun p1=>?_) (fun p1 W1 T hF hK=>?_)
 ·iterate 2 refine okn ?_
  refine okv ?_
  exact ok_nil
 replace hS:=SymF.fc hS hF [0,1000,1001] [⟨p,cs9,t9_,false⟩,⟨(p1 0).N,#[.bool s,.slice a1 n1 c1,.slice a2 n2 c2,.bool t,.slice a3 n3 c3,.slice a4 n4 c4],66,true⟩,⟨(p1 1).N,#[.bool false,.slice none 0 0,.slice none 0 0],30,true⟩]
 replace hG:=hF.gx
 clear hF
 have z1:=hS.fr.size
 refine wq hS hG hK (fun p2=>[.v 10 (.pointer (some ⟨p,0,none⟩)),.l 11 (.agg #[.bool s,.slice a1 n1 c1,.slice a2 n2 c2,.bool t,.slice a3 n3 c3,.slice a4 n4 c4]) 1 0,.c (some 12) (c5 W1.heap.size wa wb pa pb dn b),.n 6 #[.slice none 0 0,.slice none 0 0,.slice none 0 0,.slice none 0 0,.slice none 0 0,.bool false] 110,.p 1003 0 [.slice (p2 2).A (p2 2).N (p2 2).C,.slice (p2 2).A' (p2 2).N' (p2 2).C',.slice (p2 2).A2 (p2 2).N2 (p2 2).C2,.slice (p2 2).A3 (p2 2).N3 (p2 2).C3,.slice (p2 2).A4 (p2 2).N4 (p2 2).C4,.bool b]]) (fun p2=>[(0,.pointer (some ⟨p,0,none⟩)),(3,pT (p1 0).N 0),(4,pT (p1 1).N 0),(5,.int .i64 0),(6,pT (p2 3).N 0)]) (fun p2=>?_) (fun p2 W2 T hF hK=>?_)
 ·refine okv ?_
  refine okl ?_
  refine okc (fun W cx=>as_5 cx.hb (unhide HS _ _ _ c1 _ _ c2 _ _ c3 _ _ c4 ⟨_,_,cx.B 0 _ rfl (by kernel_rfl) (by kernel_rfl),hp0⟩ (cx.G.1) (cx.G.2.1) (cx.G.2.2.1) (cx.G.2.2.2.1))) ?_
  refine okn ?_
  refine okp ?_
  exact ok_nil
 replace hS:=SymF.fc hS hF [0,1,2,1003] [⟨p,cs9,t9_,false⟩,⟨(p1 0).N,#[.bool s,.slice a1 n1 c1,.slice a2 n2 c2,.bool t,.slice a3 n3 c3,.slice a4 n4 c4],66,true⟩,⟨(p1 1).N,#[.bool false,.slice none 0 0,.slice none 0 0],30,true⟩,⟨(p2 3).N,#[.slice (p2 2).A (p2 2).N (p2 2).C,.slice (p2 2).A' (p2 2).N' (p2 2).C',.slice (p2 2).A2 (p2 2).N2 (p2 2).C2,.slice (p2 2).A3 (p2 2).N3 (p2 2).C3,.slice (p2 2).A4 (p2 2).N4 (p2 2).C4,.bool b],110,true⟩]
 replace hG:GsAt (gM W1.heap.size (p2 2).A (p2 2).N (p2 2).C wa :: gM W1.heap.size (p2 2).A' (p2 2).N' (p2 2).C' wb :: gM W1.heap.size (p2 2).A2 (p2 2).N2 (p2 2).C2 pa :: gM W1.heap.size (p2 2).A3 (p2 2).N3 (p2 2).C3 pb :: gM W1.heap.size (p2 2).A4 (p2 2).N4 (p2 2).C4 dn :: _) W2:=⟨(hF.fx 2).1,(hF.fx 2).2.1,(hF.fx 2).2.2.1,(hF.fx 2).2.2.2.1,(hF.fx 2).2.2.2.2,hF.gx⟩
 clear hF
 refine wq hS hG hK (fun p3=>[.v 13 (pT (p1 0).N 0),.v 14 (pT (p1 0).N 0),.l 15 (.bool s) 1 0,.v 7 (.bool s)]) (fun p3=>[(0,.pointer (some ⟨p,0,none⟩)),(3,pT (p1 0).N 0),(4,pT (p1 1).N 0),(5,.int .i64 0),(6,pT (p2 3).N 0),(7,.bool s)]) (fun p3=>?_) (fun p3 W3 T hF hK=>?_)
 ·iterate 2 refine okv ?_
  refine okl ?_
  refine okv ?_
  exact ok_nil
 obtain ⟨hS,hG⟩:=SymF.fg hS hF
 clear hF
 refine wp_seq ?_
 refine wq hS hG hK (fun p4=>[.l 16 (.agg #[.slice (p2 2).A (p2 2).N (p2 2).C,.slice (p2 2).A' (p2 2).N' (p2 2).C',.slice (p2 2).A2 (p2 2).N2 (p2 2).C2,.slice (p2 2).A3 (p2 2).N3 (p2 2).C3,.slice (p2 2).A4 (p2 2).N4 (p2 2).C4,.bool b]) 3 0,.v 17 (.pointer (some ⟨p,0,none⟩)),.c (some 18) (cV (.bool false))]) (fun p4=>[(0,.pointer (some ⟨p,0,none⟩)),(3,pT (p1 0).N 0),(4,pT (p1 1).N 0),(5,.int .i64 0),(6,pT (p2 3).N 0),(7,.bool s),(18,.bool false)]) (fun p4=>?_) (fun p4 W4 T hF hK=>?_)
 ·refine okl ?_
  refine okv ?_
  refine okc (fun W cx=>as_v (unhide HB _ (p2 2).A (p2 2).N (p2 2).C (p2 2).A' (p2 2).N' (p2 2).C' (p2 2).A2 (p2 2).N2 (p2 2).C2 (p2 2).A3 (p2 2).N3 (p2 2).C3 (p2 2).A4 (p2 2).N4 (p2 2).C4 b ⟨_,_,cx.B 0 _ rfl (by kernel_rfl) (by kernel_rfl),hp0⟩ (Mine.num cx.G.1) (Mine.num cx.G.2.1) (Mine.num cx.G.2.2.1) (Mine.num cx.G.2.2.2.1))) ?_
  exact ok_nil
 obtain ⟨hS,hG⟩:=SymF.fg hS hF
 clear hF
 refine wp_cond_false (hK.ew 18) (wp_skip (then_n ?_))
 refine wq hS hG hK (fun p5=>[.v 34 (.pointer (some ⟨p,0,none⟩)),.v 35 (pT (p2 3).N 0),.l 36 (.agg #[.slice (p2 2).A (p2 2).N (p2 2).C]) 3 0,.v 37 (pT (p2 3).N 1),.l 38 (.agg #[.slice (p2 2).A' (p2 2).N' (p2 2).C']) 3 1,.c (some 39) (cN W4.heap.size wh),.n 8 #[.slice none 0 0] 28,.p 1006 0 [.slice (p5 5).A (p5 5).N (p5 5).C]]) (fun p5=>[(0,.pointer (some ⟨p,0,none⟩)),(3,pT (p1 0).N 0),(4,pT (p1 1).N 0),(5,.int .i64 0),(6,pT (p2 3).N 0),(7,.bool s),(8,pT (p5 6).N 0)]) (fun p5=>?_) (fun p5 W5 T hF hK=>?_)
 ·iterate 2 refine okv ?_
  refine okl ?_
  refine okv ?_
  refine okl ?_
  refine okc (fun W cx=>as_n cx.hb (unhide H1 _ _ _ (p2 2).C _ _ (p2 2).C' ⟨_,_,cx.B 0 _ rfl (by kernel_rfl) (by kernel_rfl),hp0⟩ (Mine.num cx.G.1) (Mine.num cx.G.2.1))) ?_
  refine okn ?_
  refine okp ?_
  exact ok_nil
 replace hS:=SymF.fc hS hF [0,1,2,3,1006] [⟨p,cs9,t9_,false⟩,⟨(p1 0).N,#[.bool s,.slice a1 n1 c1,.slice a2 n2 c2,.bool t,.slice a3 n3 c3,.slice a4 n4 c4],66,true⟩,⟨(p1 1).N,#[.bool false,.slice none 0 0,.slice none 0 0],30,true⟩,⟨(p2 3).N,#[.slice (p2 2).A (p2 2).N (p2 2).C,.slice (p2 2).A' (p2 2).N' (p2 2).C',.slice (p2 2).A2 (p2 2).N2 (p2 2).C2,.slice (p2 2).A3 (p2 2).N3 (p2 2).C3,.slice (p2 2).A4 (p2 2).N4 (p2 2).C4,.bool b],110,true⟩,⟨(p5 6).N,#[.slice (p5 5).A (p5 5).N (p5 5).C],28,true⟩]
 replace hG:GsAt (gM W4.heap.size (p5 5).A (p5 5).N (p5 5).C wh :: _) W5:=⟨hF.fx 5,hF.gx⟩
 clear hF
 refine wp_seq ?_
 refine wq hS hG hK (fun p6=>[.v 40 (.pointer (some ⟨p,0,none⟩)),.v 41 (pT (p2 3).N 2),.l 42 (.agg #[.slice (p2 2).A2 (p2 2).N2 (p2 2).C2]) 3 2,.v 43 (pT (p2 3).N 3),.l 44 (.agg #[.slice (p2 2).A3 (p2 2).N3 (p2 2).C3]) 3 3,.c (some 45) (cV (.int .i64 r)),.v 46 (.bool true)]) (fun p6=>[(0,.pointer (some ⟨p,0,none⟩)),(3,pT (p1 0).N 0),(4,pT (p1 1).N 0),(5,.int .i64 0),(6,pT (p2 3).N 0),(7,.bool s),(8,pT (p5 6).N 0),(46,.bool true)]) (fun p6=>?_) (fun p6 W6 T hF hK=>?_)
 ·iterate 2 refine okv ?_
  refine okl ?_
  refine okv ?_
  refine okl ?_
  refine okc (fun W cx=>as_v (unhide HC _ _ _ (p2 2).C2 _ _ (p2 2).C3 ⟨_,_,cx.B 0 _ rfl (by kernel_rfl) (by kernel_rfl),hp0⟩ (Mine.num cx.G.2.2.2.1) (Mine.num cx.G.2.2.2.2.1))) ?_
  refine okvb (decide_eq_true (show r < 0 by omega)) ?_
  exact ok_nil
 obtain ⟨hS,hG⟩:=SymF.fg hS hF
 clear hF
 refine wp_cond_true (hK.ew 46) ?_
 refine wq hS hG hK (fun p7=>[.v 47 (.pointer (some ⟨p,0,none⟩)),.l 48 (.agg #[.slice (p5 5).A (p5 5).N (p5 5).C]) 4 0,.c (some 49) (cN W6.heap.size 1),.c (some 50) (cN W6.heap.size wi),.p 4 0 [.slice (p7 3).A (p7 3).N (p7 3).C]]) (fun p7=>[(0,.pointer (some ⟨p,0,none⟩)),(3,pT (p1 0).N 0),(4,pT (p1 1).N 0),(5,.int .i64 0),(6,pT (p2 3).N 0),(7,.bool s),(8,pT (p5 6).N 0)]) (fun p7=>?_) (fun p7 W7 T hF hK=>?_)
 ·refine okv ?_
  refine okl ?_
  refine okc (fun W cx=>as_n cx.hb (of_any 1 _ (by decide))) ?_
  refine okc (fun W cx=>as_n cx.hb (unhide H2 _ _ _ (p5 5).C _ _ (p7 2).C ⟨_,_,cx.B 0 _ rfl (by kernel_rfl) (by kernel_rfl),hp0⟩ (Mine.num cx.G.1) (Mine.num (cx.F 2 (by kernel_rfl))))) ?_
  refine okp ?_
  exact ok_nil
 replace hS:=SymF.fc hS hF [0,1,2,3,4] [⟨p,cs9,t9_,false⟩,⟨(p1 0).N,#[.bool s,.slice a1 n1 c1,.slice a2 n2 c2,.bool t,.slice a3 n3 c3,.slice a4 n4 c4],66,true⟩,⟨(p1 1).N,#[.bool false,.slice none 0 0,.slice none 0 0],30,true⟩,⟨(p2 3).N,#[.slice (p2 2).A (p2 2).N (p2 2).C,.slice (p2 2).A' (p2 2).N' (p2 2).C',.slice (p2 2).A2 (p2 2).N2 (p2 2).C2,.slice (p2 2).A3 (p2 2).N3 (p2 2).C3,.slice (p2 2).A4 (p2 2).N4 (p2 2).C4,.bool b],110,true⟩,⟨(p5 6).N,#[.slice (p7 3).A (p7 3).N (p7 3).C],28,true⟩]
 replace hG:GsAt (gM W6.heap.size (p7 2).A (p7 2).N (p7 2).C 1 :: gM W6.heap.size (p7 3).A (p7 3).N (p7 3).C wi :: _) W7:=⟨hF.fx 2,hF.fx 3,hF.gx⟩
 clear hF
 refine wq hS hG hK (fun p8=>[.v 51 (.pointer (some ⟨p,0,none⟩)),.v 52 (.pointer (some ⟨p,0,none⟩)),.v 53 (pT (p2 3).N 4),.l 54 (.agg #[.slice (p2 2).A4 (p2 2).N4 (p2 2).C4]) 3 4,.v 55 (pT (p2 3).N 3),.l 56 (.agg #[.slice (p2 2).A3 (p2 2).N3 (p2 2).C3]) 3 3,.c (some 57) (cN W7.heap.size u),.v 58 (pT (p2 3).N 2),.l 59 (.agg #[.slice (p2 2).A2 (p2 2).N2 (p2 2).C2]) 3 2,.c (some 60) (cN W7.heap.size v),.v 61 (pT (p2 3).N 2),.p 3 2 [.slice (p8 9).A (p8 9).N (p8 9).C]]) (fun p8=>[(0,.pointer (some ⟨p,0,none⟩)),(3,pT (p1 0).N 0),(4,pT (p1 1).N 0),(5,.int .i64 0),(6,pT (p2 3).N 0),(7,.bool s),(8,pT (p5 6).N 0)]) (fun p8=>?_) (fun p8 W8 T hF hK=>?_)
 ·iterate 3 refine okv ?_
  refine okl ?_
  refine okv ?_
  refine okl ?_
  refine okc (fun W cx=>as_n cx.hb (unhide H3 _ _ _ (p2 2).C4 _ _ (p2 2).C3 ⟨_,_,cx.B 0 _ rfl (by kernel_rfl) (by kernel_rfl),hp0⟩ (Mine.num cx.G.2.2.2.2.2.2.2.1) (Mine.num cx.G.2.2.2.2.2.2.1))) ?_
  refine okv ?_
  refine okl ?_
  refine okc (fun W cx=>as_n cx.hb (unhide H4 _ _ _ (p8 6).C _ _ (p2 2).C2 ⟨_,_,cx.B 0 _ rfl (by kernel_rfl) (by kernel_rfl),hp0⟩ (Mine.num (cx.F 6 (by kernel_rfl))) (Mine.num cx.G.2.2.2.2.2.1))) ?_
  refine okv ?_
  refine okp ?_
  exact ok_nil
 replace hS:=SymF.fc hS hF [0,1,2,3,4] [⟨p,cs9,t9_,false⟩,⟨(p1 0).N,#[.bool s,.slice a1 n1 c1,.slice a2 n2 c2,.bool t,.slice a3 n3 c3,.slice a4 n4 c4],66,true⟩,⟨(p1 1).N,#[.bool false,.slice none 0 0,.slice none 0 0],30,true⟩,⟨(p2 3).N,#[.slice (p2 2).A (p2 2).N (p2 2).C,.slice (p2 2).A' (p2 2).N' (p2 2).C',.slice (p8 9).A (p8 9).N (p8 9).C,.slice (p2 2).A3 (p2 2).N3 (p2 2).C3,.slice (p2 2).A4 (p2 2).N4 (p2 2).C4,.bool b],110,true⟩,⟨(p5 6).N,#[.slice (p7 3).A (p7 3).N (p7 3).C],28,true⟩]
 replace hG:GsAt (gM W7.heap.size (p8 6).A (p8 6).N (p8 6).C u :: gM W7.heap.size (p8 9).A (p8 9).N (p8 9).C v :: _) W8:=⟨hF.fx 6,hF.fx 9,hF.gx⟩
 clear hF
 refine wg hS hG hK (fun p9=>[.v 62 (.agg #[.slice none 0 0]),.v 63 (pT (p2 3).N 3),.p 3 3 [.slice none 0 0]]) (fun p9=>[(0,.pointer (some ⟨p,0,none⟩)),(3,pT (p1 0).N 0),(4,pT (p1 1).N 0),(5,.int .i64 0),(6,pT (p2 3).N 0),(7,.bool s),(8,pT (p5 6).N 0)]) (fun p9=>?_) (fun p9 W9 T hF hK=>?_)
 ·iterate 2 refine okv ?_
  refine okp ?_
  exact ok_nil
 replace hS:=SymF.fc hS hF [0,1,2,3,4] [⟨p,cs9,t9_,false⟩,⟨(p1 0).N,#[.bool s,.slice a1 n1 c1,.slice a2 n2 c2,.bool t,.slice a3 n3 c3,.slice a4 n4 c4],66,true⟩,⟨(p1 1).N,#[.bool false,.slice none 0 0,.slice none 0 0],30,true⟩,⟨(p2 3).N,#[.slice (p2 2).A (p2 2).N (p2 2).C,.slice (p2 2).A' (p2 2).N' (p2 2).C',.slice (p8 9).A (p8 9).N (p8 9).C,.slice none 0 0,.slice (p2 2).A4 (p2 2).N4 (p2 2).C4,.bool b],110,true⟩,⟨(p5 6).N,#[.slice (p7 3).A (p7 3).N (p7 3).C],28,true⟩]
 replace hG:=hF.gx
 clear hF
 have z9:=hS.fr.size
 refine then_n ?_
 refine wq hS hG hK (fun p10=>[.v 64 (.pointer (some ⟨p,0,none⟩)),.v 65 (.pointer (some ⟨p,0,none⟩)),.l 66 (.agg #[.slice (p7 3).A (p7 3).N (p7 3).C]) 4 0,.v 67 (pT (p2 3).N 4),.l 68 (.agg #[.slice (p2 2).A4 (p2 2).N4 (p2 2).C4]) 3 4,.c (some 69) (cN W9.heap.size x),.v 70 (.pointer (some ⟨p,0,none⟩)),.v 71 (pT (p2 3).N 2),.l 72 (.agg #[.slice (p8 9).A (p8 9).N (p8 9).C]) 3 2,.v 73 (pT (p2 3).N 3),.l 74 (.agg #[.slice none 0 0]) 3 3,.c (some 75) (cN W9.heap.size y),.c (some 76) (cN W9.heap.size z),.n 9 #[.slice none 0 0] 28,.p 1013 0 [.slice (p10 12).A (p10 12).N (p10 12).C]]) (fun p10=>[(0,.pointer (some ⟨p,0,none⟩)),(3,pT (p1 0).N 0),(4,pT (p1 1).N 0),(5,.int .i64 0),(6,pT (p2 3).N 0),(7,.bool s),(9,pT (p10 13).N 0)]) (fun p10=>?_) (fun p10 W10 T hF hK=>?_)
 ·iterate 2 refine okv ?_
  refine okl ?_
  refine okv ?_
  refine okl ?_
  refine okc (fun W cx=>as_n cx.hb (unhide H5 _ _ _ (p7 3).C _ _ (p2 2).C4 ⟨_,_,cx.B 0 _ rfl (by kernel_rfl) (by kernel_rfl),hp0⟩ (Mine.num cx.G.2.2.2.1) (Mine.num cx.G.2.2.2.2.2.2.2.2.2.1))) ?_
  iterate 2 refine okv ?_
  refine okl ?_
  refine okv ?_
  refine okl ?_
  refine okc (fun W cx=>as_n cx.hb (unhide H6 _ _ _ (p8 9).C _ _ 0 ⟨_,_,cx.B 0 _ rfl (by kernel_rfl) (by kernel_rfl),hp0⟩ (Mine.num cx.G.2.1) (Num.znil _))) ?_
  refine okc (fun W cx=>as_n cx.hb (unhide H7 _ _ _ (p10 5).C _ _ (p10 11).C ⟨_,_,cx.B 0 _ rfl (by kernel_rfl) (by kernel_rfl),hp0⟩ (Mine.num (cx.F 5 (by kernel_rfl))) (Mine.num (cx.F 11 (by kernel_rfl))))) ?_
  refine okn ?_
  refine okp ?_
  exact ok_nil
 replace hS:=SymF.fc hS hF [0,1,2,3,1013] [⟨p,cs9,t9_,false⟩,⟨(p1 0).N,#[.bool s,.slice a1 n1 c1,.slice a2 n2 c2,.bool t,.slice a3 n3 c3,.slice a4 n4 c4],66,true⟩,⟨(p1 1).N,#[.bool false,.slice none 0 0,.slice none 0 0],30,true⟩,⟨(p2 3).N,#[.slice (p2 2).A (p2 2).N (p2 2).C,.slice (p2 2).A' (p2 2).N' (p2 2).C',.slice (p8 9).A (p8 9).N (p8 9).C,.slice none 0 0,.slice (p2 2).A4 (p2 2).N4 (p2 2).C4,.bool b],110,true⟩,⟨(p10 13).N,#[.slice (p10 12).A (p10 12).N (p10 12).C],28,true⟩]
 replace hG:GsAt (gM W9.heap.size (p10 5).A (p10 5).N (p10 5).C x :: gM W9.heap.size (p10 11).A (p10 11).N (p10 11).C y :: gM W9.heap.size (p10 12).A (p10 12).N (p10 12).C z :: _) W10:=⟨hF.fx 5,hF.fx 11,hF.fx 12,hF.gx⟩
 clear hF
 refine wq hS hG hK (fun p11=>[.v 77 (.pointer (some ⟨p,0,none⟩)),.v 78 (.bool s),.l 79 (.agg #[.slice (p10 12).A (p10 12).N (p10 12).C]) 4 0,.v 80 (pT (p2 3).N 4),.l 81 (.agg #[.slice (p2 2).A4 (p2 2).N4 (p2 2).C4]) 3 4,.c (some 82) (cV (.tuple #[.agg #[.bool g,.slice (p10 12).A (p10 12).N (p10 12).C,.slice (p2 2).A4 (p2 2).N4 (p2 2).C4],.int .i64 0])),.v 83 (.agg #[.bool g,.slice (p10 12).A (p10 12).N (p10 12).C,.slice (p2 2).A4 (p2 2).N4 (p2 2).C4]),.v 84 (.int .i64 0),.p 2 0 [.bool g,.slice (p10 12).A (p10 12).N (p10 12).C,.slice (p2 2).A4 (p2 2).N4 (p2 2).C4],.v 5 (.int .i64 0)]) (fun p11=>[(3,pT (p1 0).N 0),(4,pT (p1 1).N 0),(5,.int .i64 0),(6,pT (p2 3).N 0)]) (fun p11=>?_) (fun p11 W11 T hF hK=>?_)
 ·iterate 2 refine okv ?_
  refine okl ?_
  refine okv ?_
  refine okl ?_
  refine okc (fun W cx=>as_v (unhide HF _ _ _ (p10 12).C _ _ (p2 2).C4 ⟨_,_,cx.B 0 _ rfl (by kernel_rfl) (by kernel_rfl),hp0⟩ (Mine.num cx.G.2.2.1) (Mine.num cx.G.2.2.2.2.2.2.2.2.2.2.2.2.1))) ?_
  iterate 2 refine okv ?_
  refine okp ?_
  refine okv ?_
  exact ok_nil
 replace hS:=SymF.fc hS hF [0,1,2,3] [⟨p,cs9,t9_,false⟩,⟨(p1 0).N,#[.bool s,.slice a1 n1 c1,.slice a2 n2 c2,.bool t,.slice a3 n3 c3,.slice a4 n4 c4],66,true⟩,⟨(p1 1).N,#[.bool g,.slice (p10 12).A (p10 12).N (p10 12).C,.slice (p2 2).A4 (p2 2).N4 (p2 2).C4],30,true⟩,⟨(p2 3).N,#[.slice (p2 2).A (p2 2).N (p2 2).C,.slice (p2 2).A' (p2 2).N' (p2 2).C',.slice (p8 9).A (p8 9).N (p8 9).C,.slice none 0 0,.slice (p2 2).A4 (p2 2).N4 (p2 2).C4,.bool b],110,true⟩]
 replace hG:=hF.gx
 clear hF
 refine wp_ret ?_
 exact sym_end hS hK (.tuple #[.agg #[.bool g,.slice (p10 12).A (p10 12).N (p10 12).C,.slice (p2 2).A4 (p2 2).N4 (p2 2).C4],.int .i64 0]) [(2,0,3)] [.bool g,.slice (p10 12).A (p10 12).N (p10 12).C,.slice (p2 2).A4 (p2 2).N4 (p2 2).C4] (by kernel_rfl) (by kernel_rfl) ⟨⟨_,_,_,_,_,_,rfl,Mine.mono hG.2.2.1 z9,Mine.mono hG.2.2.2.2.2.2.2.2.2.2.2.2.1 z1⟩,hS.fr⟩
theorem zapa_fg (w:World) (p:Nat) (a1 a2 a3 a4:Option Addr) (n1 n2 n3 n4 c1 c2 c3 c4 m1 d1 m2 d2:Nat) (s t b g:Bool) (wa wb pa pb dn wh x y z:Nat) (r:Int) (hR:Rz w p 0) (h1:Num w a1 n1 m1) (h2:Num w a2 n2 d1) (h3:Num w a3 n3 m2) (h4:Num w a4 n4 d2) (HS:Hid (WSpl p s t m1 d1 m2 d2 wa wb pa pb dn b)) (HB:Hid (WBel p wa wb pa pb false)) (H1:Hid (WTwo 76 p wa wb wh)) (HC:Hid (WCmp p pa pb r)) (hr:0≤r) (H5:Hid (WTwo 52 p wh dn x)) (H6:Hid (WTwo 76 p pa pb y)) (H7:Hid (WTwo 37 p x y z)) (HF:Hid (WFr p s z dn g))  :
  Calls Tryz.prog 55 #[.pointer (some ⟨p,0,none⟩),.agg #[.bool s,.slice a1 n1 c1,.slice a2 n2 c2,.bool t,.slice a3 n3 c3,.slice a4 n4 c4]] w fun en w'=>(∃ A N C A' N' C',en = .returned (.tuple #[.agg #[.bool g,.slice A N C,.slice A' N' C'],.int .i64 0])∧Mine w' w.heap.size A N C z∧Mine w' w.heap.size A' N' C' dn)∧Below w.heap.size w w':=by
 obtain ⟨cs9,t9_,hp,hp0⟩:=hR
 refine calls_sym Tryz.func55 rfl (by kernel_rfl) fun T hK=>?_
 replace hK:Kn T _ [(0,.pointer (some ⟨p,0,none⟩)),(1,.agg #[.bool s,.slice a1 n1 c1,.slice a2 n2 c2,.bool t,.slice a3 n3 c3,.slice a4 n4 c4])]:=hK
 have hS:=Fb.other hp
 have hG:GsAt [gN a1 n1 m1,gN a2 n2 d1,gN a3 n3 m2,gN a4 n4 d2] w:=⟨h1,h2,h3,h4,trivial⟩
 refine wq hS hG hK (fun p1=>[.n 3 #[.bool s,.slice a1 n1 c1,.slice a2 n2 c2,.bool t,.slice a3 n3 c3,.slice a4 n4 c4] 66,.n 4 #[.bool false,.slice none 0 0,.slice none 0 0] 30,.v 5 (.int .i64 0)]) (fun p1=>[(0,.pointer (some ⟨p,0,none⟩)),(3,pT (p1 0).N 0),(4,pT (p1 1).N 0),(5,.int .i64 0)]) (fun p1=>?_) (fun p1 W1 T hF hK=>?_)
 ·iterate 2 refine okn ?_
  refine okv ?_
  exact ok_nil
 replace hS:=SymF.fc hS hF [0,1000,1001] [⟨p,cs9,t9_,false⟩,⟨(p1 0).N,#[.bool s,.slice a1 n1 c1,.slice a2 n2 c2,.bool t,.slice a3 n3 c3,.slice a4 n4 c4],66,true⟩,⟨(p1 1).N,#[.bool false,.slice none 0 0,.slice none 0 0],30,true⟩]
 replace hG:=hF.gx
 clear hF
 have z1:=hS.fr.size
 refine wq hS hG hK (fun p2=>[.v 10 (.pointer (some ⟨p,0,none⟩)),.l 11 (.agg #[.bool s,.slice a1 n1 c1,.slice a2 n2 c2,.bool t,.slice a3 n3 c3,.slice a4 n4 c4]) 1 0,.c (some 12) (c5 W1.heap.size wa wb pa pb dn b),.n 6 #[.slice none 0 0,.slice none 0 0,.slice none 0 0,.slice none 0 0,.slice none 0 0,.bool false] 110,.p 1003 0 [.slice (p2 2).A (p2 2).N (p2 2).C,.slice (p2 2).A' (p2 2).N' (p2 2).C',.slice (p2 2).A2 (p2 2).N2 (p2 2).C2,.slice (p2 2).A3 (p2 2).N3 (p2 2).C3,.slice (p2 2).A4 (p2 2).N4 (p2 2).C4,.bool b]]) (fun p2=>[(0,.pointer (some ⟨p,0,none⟩)),(3,pT (p1 0).N 0),(4,pT (p1 1).N 0),(5,.int .i64 0),(6,pT (p2 3).N 0)]) (fun p2=>?_) (fun p2 W2 T hF hK=>?_)
 ·refine okv ?_
  refine okl ?_
  refine okc (fun W cx=>as_5 cx.hb (unhide HS _ _ _ c1 _ _ c2 _ _ c3 _ _ c4 ⟨_,_,cx.B 0 _ rfl (by kernel_rfl) (by kernel_rfl),hp0⟩ (cx.G.1) (cx.G.2.1) (cx.G.2.2.1) (cx.G.2.2.2.1))) ?_
  refine okn ?_
  refine okp ?_
  exact ok_nil
 replace hS:=SymF.fc hS hF [0,1,2,1003] [⟨p,cs9,t9_,false⟩,⟨(p1 0).N,#[.bool s,.slice a1 n1 c1,.slice a2 n2 c2,.bool t,.slice a3 n3 c3,.slice a4 n4 c4],66,true⟩,⟨(p1 1).N,#[.bool false,.slice none 0 0,.slice none 0 0],30,true⟩,⟨(p2 3).N,#[.slice (p2 2).A (p2 2).N (p2 2).C,.slice (p2 2).A' (p2 2).N' (p2 2).C',.slice (p2 2).A2 (p2 2).N2 (p2 2).C2,.slice (p2 2).A3 (p2 2).N3 (p2 2).C3,.slice (p2 2).A4 (p2 2).N4 (p2 2).C4,.bool b],110,true⟩]
 replace hG:GsAt (gM W1.heap.size (p2 2).A (p2 2).N (p2 2).C wa :: gM W1.heap.size (p2 2).A' (p2 2).N' (p2 2).C' wb :: gM W1.heap.size (p2 2).A2 (p2 2).N2 (p2 2).C2 pa :: gM W1.heap.size (p2 2).A3 (p2 2).N3 (p2 2).C3 pb :: gM W1.heap.size (p2 2).A4 (p2 2).N4 (p2 2).C4 dn :: _) W2:=⟨(hF.fx 2).1,(hF.fx 2).2.1,(hF.fx 2).2.2.1,(hF.fx 2).2.2.2.1,(hF.fx 2).2.2.2.2,hF.gx⟩
 clear hF
 refine wq hS hG hK (fun p3=>[.v 13 (pT (p1 0).N 0),.v 14 (pT (p1 0).N 0),.l 15 (.bool s) 1 0,.v 7 (.bool s)]) (fun p3=>[(0,.pointer (some ⟨p,0,none⟩)),(3,pT (p1 0).N 0),(4,pT (p1 1).N 0),(5,.int .i64 0),(6,pT (p2 3).N 0),(7,.bool s)]) (fun p3=>?_) (fun p3 W3 T hF hK=>?_)
 ·iterate 2 refine okv ?_
  refine okl ?_
  refine okv ?_
  exact ok_nil
 obtain ⟨hS,hG⟩:=SymF.fg hS hF
 clear hF
 refine wp_seq ?_
 refine wq hS hG hK (fun p4=>[.l 16 (.agg #[.slice (p2 2).A (p2 2).N (p2 2).C,.slice (p2 2).A' (p2 2).N' (p2 2).C',.slice (p2 2).A2 (p2 2).N2 (p2 2).C2,.slice (p2 2).A3 (p2 2).N3 (p2 2).C3,.slice (p2 2).A4 (p2 2).N4 (p2 2).C4,.bool b]) 3 0,.v 17 (.pointer (some ⟨p,0,none⟩)),.c (some 18) (cV (.bool false))]) (fun p4=>[(0,.pointer (some ⟨p,0,none⟩)),(3,pT (p1 0).N 0),(4,pT (p1 1).N 0),(5,.int .i64 0),(6,pT (p2 3).N 0),(7,.bool s),(18,.bool false)]) (fun p4=>?_) (fun p4 W4 T hF hK=>?_)
 ·refine okl ?_
  refine okv ?_
  refine okc (fun W cx=>as_v (unhide HB _ (p2 2).A (p2 2).N (p2 2).C (p2 2).A' (p2 2).N' (p2 2).C' (p2 2).A2 (p2 2).N2 (p2 2).C2 (p2 2).A3 (p2 2).N3 (p2 2).C3 (p2 2).A4 (p2 2).N4 (p2 2).C4 b ⟨_,_,cx.B 0 _ rfl (by kernel_rfl) (by kernel_rfl),hp0⟩ (Mine.num cx.G.1) (Mine.num cx.G.2.1) (Mine.num cx.G.2.2.1) (Mine.num cx.G.2.2.2.1))) ?_
  exact ok_nil
 obtain ⟨hS,hG⟩:=SymF.fg hS hF
 clear hF
 refine wp_cond_false (hK.ew 18) (wp_skip (then_n ?_))
 refine wq hS hG hK (fun p5=>[.v 34 (.pointer (some ⟨p,0,none⟩)),.v 35 (pT (p2 3).N 0),.l 36 (.agg #[.slice (p2 2).A (p2 2).N (p2 2).C]) 3 0,.v 37 (pT (p2 3).N 1),.l 38 (.agg #[.slice (p2 2).A' (p2 2).N' (p2 2).C']) 3 1,.c (some 39) (cN W4.heap.size wh),.n 8 #[.slice none 0 0] 28,.p 1006 0 [.slice (p5 5).A (p5 5).N (p5 5).C]]) (fun p5=>[(0,.pointer (some ⟨p,0,none⟩)),(3,pT (p1 0).N 0),(4,pT (p1 1).N 0),(5,.int .i64 0),(6,pT (p2 3).N 0),(7,.bool s),(8,pT (p5 6).N 0)]) (fun p5=>?_) (fun p5 W5 T hF hK=>?_)
 ·iterate 2 refine okv ?_
  refine okl ?_
  refine okv ?_
  refine okl ?_
  refine okc (fun W cx=>as_n cx.hb (unhide H1 _ _ _ (p2 2).C _ _ (p2 2).C' ⟨_,_,cx.B 0 _ rfl (by kernel_rfl) (by kernel_rfl),hp0⟩ (Mine.num cx.G.1) (Mine.num cx.G.2.1))) ?_
  refine okn ?_
  refine okp ?_
  exact ok_nil
 replace hS:=SymF.fc hS hF [0,1,2,3,1006] [⟨p,cs9,t9_,false⟩,⟨(p1 0).N,#[.bool s,.slice a1 n1 c1,.slice a2 n2 c2,.bool t,.slice a3 n3 c3,.slice a4 n4 c4],66,true⟩,⟨(p1 1).N,#[.bool false,.slice none 0 0,.slice none 0 0],30,true⟩,⟨(p2 3).N,#[.slice (p2 2).A (p2 2).N (p2 2).C,.slice (p2 2).A' (p2 2).N' (p2 2).C',.slice (p2 2).A2 (p2 2).N2 (p2 2).C2,.slice (p2 2).A3 (p2 2).N3 (p2 2).C3,.slice (p2 2).A4 (p2 2).N4 (p2 2).C4,.bool b],110,true⟩,⟨(p5 6).N,#[.slice (p5 5).A (p5 5).N (p5 5).C],28,true⟩]
 replace hG:GsAt (gM W4.heap.size (p5 5).A (p5 5).N (p5 5).C wh :: _) W5:=⟨hF.fx 5,hF.gx⟩
 clear hF
 refine wp_seq ?_
 refine wq hS hG hK (fun p6=>[.v 40 (.pointer (some ⟨p,0,none⟩)),.v 41 (pT (p2 3).N 2),.l 42 (.agg #[.slice (p2 2).A2 (p2 2).N2 (p2 2).C2]) 3 2,.v 43 (pT (p2 3).N 3),.l 44 (.agg #[.slice (p2 2).A3 (p2 2).N3 (p2 2).C3]) 3 3,.c (some 45) (cV (.int .i64 r)),.v 46 (.bool false)]) (fun p6=>[(0,.pointer (some ⟨p,0,none⟩)),(3,pT (p1 0).N 0),(4,pT (p1 1).N 0),(5,.int .i64 0),(6,pT (p2 3).N 0),(7,.bool s),(8,pT (p5 6).N 0),(46,.bool false)]) (fun p6=>?_) (fun p6 W6 T hF hK=>?_)
 ·iterate 2 refine okv ?_
  refine okl ?_
  refine okv ?_
  refine okl ?_
  refine okc (fun W cx=>as_v (unhide HC _ _ _ (p2 2).C2 _ _ (p2 2).C3 ⟨_,_,cx.B 0 _ rfl (by kernel_rfl) (by kernel_rfl),hp0⟩ (Mine.num cx.G.2.2.2.1) (Mine.num cx.G.2.2.2.2.1))) ?_
  refine okvb (decide_eq_false (show ¬ r < 0 by omega)) ?_
  exact ok_nil
 obtain ⟨hS,hG⟩:=SymF.fg hS hF
 clear hF
 have z6:=hS.fr.size
 refine wp_cond_false (hK.ew 46) (wp_skip (then_n ?_))
 refine wq hS hG hK (fun p7=>[.v 64 (.pointer (some ⟨p,0,none⟩)),.v 65 (.pointer (some ⟨p,0,none⟩)),.l 66 (.agg #[.slice (p5 5).A (p5 5).N (p5 5).C]) 4 0,.v 67 (pT (p2 3).N 4),.l 68 (.agg #[.slice (p2 2).A4 (p2 2).N4 (p2 2).C4]) 3 4,.c (some 69) (cN W6.heap.size x),.v 70 (.pointer (some ⟨p,0,none⟩)),.v 71 (pT (p2 3).N 2),.l 72 (.agg #[.slice (p2 2).A2 (p2 2).N2 (p2 2).C2]) 3 2,.v 73 (pT (p2 3).N 3),.l 74 (.agg #[.slice (p2 2).A3 (p2 2).N3 (p2 2).C3]) 3 3,.c (some 75) (cN W6.heap.size y),.c (some 76) (cN W6.heap.size z),.n 9 #[.slice none 0 0] 28,.p 1013 0 [.slice (p7 12).A (p7 12).N (p7 12).C]]) (fun p7=>[(0,.pointer (some ⟨p,0,none⟩)),(3,pT (p1 0).N 0),(4,pT (p1 1).N 0),(5,.int .i64 0),(6,pT (p2 3).N 0),(7,.bool s),(8,pT (p5 6).N 0),(9,pT (p7 13).N 0)]) (fun p7=>?_) (fun p7 W7 T hF hK=>?_)
 ·iterate 2 refine okv ?_
  refine okl ?_
  refine okv ?_
  refine okl ?_
  refine okc (fun W cx=>as_n cx.hb (unhide H5 _ _ _ (p5 5).C _ _ (p2 2).C4 ⟨_,_,cx.B 0 _ rfl (by kernel_rfl) (by kernel_rfl),hp0⟩ (Mine.num cx.G.1) (Mine.num cx.G.2.2.2.2.2.1))) ?_
  iterate 2 refine okv ?_
  refine okl ?_
  refine okv ?_
  refine okl ?_
  refine okc (fun W cx=>as_n cx.hb (unhide H6 _ _ _ (p2 2).C2 _ _ (p2 2).C3 ⟨_,_,cx.B 0 _ rfl (by kernel_rfl) (by kernel_rfl),hp0⟩ (Mine.num cx.G.2.2.2.1) (Mine.num cx.G.2.2.2.2.1))) ?_
  refine okc (fun W cx=>as_n cx.hb (unhide H7 _ _ _ (p7 5).C _ _ (p7 11).C ⟨_,_,cx.B 0 _ rfl (by kernel_rfl) (by kernel_rfl),hp0⟩ (Mine.num (cx.F 5 (by kernel_rfl))) (Mine.num (cx.F 11 (by kernel_rfl))))) ?_
  refine okn ?_
  refine okp ?_
  exact ok_nil
 replace hS:=SymF.fc hS hF [0,1,2,3,4,1013] [⟨p,cs9,t9_,false⟩,⟨(p1 0).N,#[.bool s,.slice a1 n1 c1,.slice a2 n2 c2,.bool t,.slice a3 n3 c3,.slice a4 n4 c4],66,true⟩,⟨(p1 1).N,#[.bool false,.slice none 0 0,.slice none 0 0],30,true⟩,⟨(p2 3).N,#[.slice (p2 2).A (p2 2).N (p2 2).C,.slice (p2 2).A' (p2 2).N' (p2 2).C',.slice (p2 2).A2 (p2 2).N2 (p2 2).C2,.slice (p2 2).A3 (p2 2).N3 (p2 2).C3,.slice (p2 2).A4 (p2 2).N4 (p2 2).C4,.bool b],110,true⟩,⟨(p5 6).N,#[.slice (p5 5).A (p5 5).N (p5 5).C],28,true⟩,⟨(p7 13).N,#[.slice (p7 12).A (p7 12).N (p7 12).C],28,true⟩]
 replace hG:GsAt (gM W6.heap.size (p7 5).A (p7 5).N (p7 5).C x :: gM W6.heap.size (p7 11).A (p7 11).N (p7 11).C y :: gM W6.heap.size (p7 12).A (p7 12).N (p7 12).C z :: _) W7:=⟨hF.fx 5,hF.fx 11,hF.fx 12,hF.gx⟩
 clear hF
 refine wq hS hG hK (fun p8=>[.v 77 (.pointer (some ⟨p,0,none⟩)),.v 78 (.bool s),.l 79 (.agg #[.slice (p7 12).A (p7 12).N (p7 12).C]) 5 0,.v 80 (pT (p2 3).N 4),.l 81 (.agg #[.slice (p2 2).A4 (p2 2).N4 (p2 2).C4]) 3 4,.c (some 82) (cV (.tuple #[.agg #[.bool g,.slice (p7 12).A (p7 12).N (p7 12).C,.slice (p2 2).A4 (p2 2).N4 (p2 2).C4],.int .i64 0])),.v 83 (.agg #[.bool g,.slice (p7 12).A (p7 12).N (p7 12).C,.slice (p2 2).A4 (p2 2).N4 (p2 2).C4]),.v 84 (.int .i64 0),.p 2 0 [.bool g,.slice (p7 12).A (p7 12).N (p7 12).C,.slice (p2 2).A4 (p2 2).N4 (p2 2).C4],.v 5 (.int .i64 0)]) (fun p8=>[(0,.pointer (some ⟨p,0,none⟩)),(3,pT (p1 0).N 0),(4,pT (p1 1).N 0),(5,.int .i64 0),(6,pT (p2 3).N 0),(8,pT (p5 6).N 0)]) (fun p8=>?_) (fun p8 W8 T hF hK=>?_)
 ·iterate 2 refine okv ?_
  refine okl ?_
  refine okv ?_
  refine okl ?_
  refine okc (fun W cx=>as_v (unhide HF _ _ _ (p7 12).C _ _ (p2 2).C4 ⟨_,_,cx.B 0 _ rfl (by kernel_rfl) (by kernel_rfl),hp0⟩ (Mine.num cx.G.2.2.1) (Mine.num cx.G.2.2.2.2.2.2.2.2.1))) ?_
  iterate 2 refine okv ?_
  refine okp ?_
  refine okv ?_
  exact ok_nil
 replace hS:=SymF.fc hS hF [0,1,2,3,4] [⟨p,cs9,t9_,false⟩,⟨(p1 0).N,#[.bool s,.slice a1 n1 c1,.slice a2 n2 c2,.bool t,.slice a3 n3 c3,.slice a4 n4 c4],66,true⟩,⟨(p1 1).N,#[.bool g,.slice (p7 12).A (p7 12).N (p7 12).C,.slice (p2 2).A4 (p2 2).N4 (p2 2).C4],30,true⟩,⟨(p2 3).N,#[.slice (p2 2).A (p2 2).N (p2 2).C,.slice (p2 2).A' (p2 2).N' (p2 2).C',.slice (p2 2).A2 (p2 2).N2 (p2 2).C2,.slice (p2 2).A3 (p2 2).N3 (p2 2).C3,.slice (p2 2).A4 (p2 2).N4 (p2 2).C4,.bool b],110,true⟩,⟨(p5 6).N,#[.slice (p5 5).A (p5 5).N (p5 5).C],28,true⟩]
 replace hG:=hF.gx
 clear hF
 refine wp_ret ?_
 exact sym_end hS hK (.tuple #[.agg #[.bool g,.slice (p7 12).A (p7 12).N (p7 12).C,.slice (p2 2).A4 (p2 2).N4 (p2 2).C4],.int .i64 0]) [(2,0,3)] [.bool g,.slice (p7 12).A (p7 12).N (p7 12).C,.slice (p2 2).A4 (p2 2).N4 (p2 2).C4] (by kernel_rfl) (by kernel_rfl) ⟨⟨_,_,_,_,_,_,rfl,Mine.mono hG.2.2.1 z6,Mine.mono hG.2.2.2.2.2.2.2.2.1 z1⟩,hS.fr⟩
end Go.Proofs.YtcfccblpcngeaaaGreat
