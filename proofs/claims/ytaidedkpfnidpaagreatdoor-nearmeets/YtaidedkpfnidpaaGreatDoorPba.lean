/- Of what NearMeetsRow stands on: TnRun0 RzW RzTog RzSub. -/
import Derived.Test.YtaidedkpfnidpaaGreatDoorPab
import Derived.Test.YtaidedkpfnidpaaGreatDoorPav
import Derived.Test.YtaidedkpfnidpaaGreatDoorPaq
import Derived.Test.YtaidedkpfnidpaaGreatDoorPat
namespace Go.Proofs.YtaidedkpfnidpaaGreatDoor
open Go.RowKit
set_option maxHeartbeats 2000000
set_option maxRecDepth 20000
theorem setCell_stillz {W:World} {b j:Nat} {cs:Array Value} {t:TypeId} {u:Value} (hb:W.heap[b]? = some (.cells cs t (0,0))) (hc:cs[j]? = some u):W.setCell ⟨b,j,none⟩ u = W:=by
 have he:(W.setCell ⟨b,j,none⟩ u).heap = W.heap:=by
  apply Array.ext_getElem?
  intro k
  by_cases hk:k = b
  ·subst hk
   rw [heap_setCell_same W k j _ _ _ hb,hb]
   congr 2
   apply Array.ext_getElem?
   intro i
   by_cases hi:i = j
   ·subst hi
    obtain ⟨hlt,_⟩:=Array.getElem?_eq_some_iff.1 hc
    rw [hc]; simp [hlt]
   ·rw [Array.getElem?_setIfInBounds_ne (Ne.symm hi)]
  ·rw [heap_setCell_other W _ k u hk]
 have:W.setCell ⟨b,j,none⟩ u = { W with heap:=(W.setCell ⟨b,j,none⟩ u).heap }:=rfl
 rw [this,he]
def Rz (w:World) (p k:Nat):Prop:=∃ cs t,w.heap[p]? = some (.cells cs t (0,0))∧cs[k]? = some (.int .i64 0)
theorem Rz.kept {w w':World} {p k:Nat} (h:Rz w p k) (hb:Below w.heap.size w w'):Rz w' p k:=by
 obtain ⟨cs,t,h1,h2⟩:=h
 exact ⟨cs,t,by rw [hb.block _ (block_lt h1)]; exact h1,h2⟩
theorem Rz.cell {w:World} {p k:Nat} (h:Rz w p k):w.cell? ⟨p,k,none⟩ = some (.int .i64 0)∧w.frozen? ⟨p,k,none⟩ = false:=by
 obtain ⟨cs,t,h1,h2⟩:=h
 exact ⟨by rw [cell_of_row w p k _ _ _ h1]; exact h2,frozen_of_row w p k _ _ h1⟩
theorem Rz.still {w:World} {p k:Nat} (h:Rz w p k):w.setCell ⟨p,k,none⟩ (.int .i64 0) = w:=by
 obtain ⟨cs,t,h1,h2⟩:=h
 exact setCell_stillz h1 h2
theorem keep_z (p k:Nat) (w:World) (h:Rz w p k) :
  Calls Tryz.prog 61 #[.pointer (some ⟨p,k,none⟩),.int .i64 0] w fun en w'=>en = .returned (.tuple #[])∧Below w.heap.size w w':=by
 obtain ⟨h1,h2⟩:=h.cell
 have h3:=h.still
 go_enter Tryz.func61,Tryz.ntmps61
 go_wp2
 go_end0
 exact ⟨rfl,Below.refl _ _⟩
theorem runNat_z (p k:Nat) (a:Option Addr) (n cap:Nat) (w:World) (h:Rz w p k) :
  Calls Tryz.prog 117 #[.pointer (some ⟨p,k,none⟩),.agg #[.slice a n cap],.int .i64 0] w fun e w'=>e = .returned (.agg #[.slice a n cap])∧Below w.heap.size w w':=by
 have H:=hide h
 clear h
 go_enter Tryz.func117,Tryz.ntmps117
 go_wp2_with fail
 refine (keep_z p k _ ((unhide H).kept (Fs.two w _ _ _ _).fr)).mono ?_
 rintro e w1 ⟨rfl,hb1⟩
 have hS:=(Fs.two w _ _ _ _).kept hb1
 obtain ⟨⟨ya,-⟩,⟨yb,-⟩,-⟩:=hS.cells
 have fz0:=hS.frozen (b:=w.heap.size+1) (cs:=#[.slice none 0 0]) (t:=27) (by simp) 0
 go_wp2
 exact bodyPost_ret (v:=.agg #[.slice a n cap]) (by simp [results,Tryz.results117,go_sem,yb]) rfl ⟨rfl,(hS.fr.setCell (by simp <;> omega) _)⟩
theorem runInt_z (p k:Nat) (c:Int) (w:World) (h:Rz w p k) :
  Calls Tryz.prog 120 #[.pointer (some ⟨p,k,none⟩),.int .i64 c,.int .i64 0] w fun e w'=>e = .returned (.int .i64 c)∧Below w.heap.size w w':=by
 have H:=hide h
 clear h
 go_enter Tryz.func120,Tryz.ntmps120
 go_wp2_with fail
 refine (keep_z p k _ (unhide H)).mono ?_
 rintro e w1 ⟨rfl,hb1⟩
 have hS:=(Fs.begin w).kept hb1
 go_wp2
 go_ret
 exact ⟨rfl,hS.fr⟩
def WTwo (f:FuncId) (p x y v:Nat):Prop:=∀ (W:World) (a:Option Addr) (n c:Nat) (a':Option Addr) (n' c':Nat),Rz W p 0→Num W a n x→Num W a' n' y→Calls Tryz.prog f #[.pointer (some ⟨p,0,none⟩),.agg #[.slice a n c],.agg #[.slice a' n' c']] W fun en W'=>(∃ A N C,en = .returned (.agg #[.slice A N C])∧Mine W' W.heap.size A N C v)∧Below W.heap.size W W'
def WCmp (p x y:Nat) (r:Int):Prop:=∀ (W:World) (a:Option Addr) (n c:Nat) (a':Option Addr) (n' c':Nat),Rz W p 0→Num W a n x→Num W a' n' y→Calls Tryz.prog 82 #[.pointer (some ⟨p,0,none⟩),.agg #[.slice a n c],.agg #[.slice a' n' c']] W fun en W'=>en = .returned (.int .i64 r)∧Below W.heap.size W W'
theorem zmul (w:World) (p:Nat) (a1 a2:Option Addr) (n1 n2 c1 c2 x y v:Nat) (hR:Rz w p 0) (h1:Num w a1 n1 x) (h2:Num w a2 n2 y) (H:Hid (∀ (W:World) (a:Option Addr) (n c:Nat) (a':Option Addr) (n' c':Nat),Num W a n x→Num W a' n' y→Calls Tryz.prog 118 #[.agg #[.slice a n c],.agg #[.slice a' n' c']] W fun en W'=>(∃ A N C,en = .returned (.tuple #[.agg #[.slice A N C],.int .i64 0])∧Mine W' W.heap.size A N C v)∧Below W.heap.size W W')) :
  Calls Tryz.prog 77 #[.pointer (some ⟨p,0,none⟩),.agg #[.slice a1 n1 c1],.agg #[.slice a2 n2 c2]] w fun en w'=>(∃ A N C,en = .returned (.agg #[.slice A N C])∧Mine w' w.heap.size A N C v)∧Below w.heap.size w w':=by
 obtain ⟨cs9,t9_,hp,hp0⟩:=hR
 refine calls_sym Tryz.func77 rfl (by kernel_rfl) fun T hK=>?_
 replace hK:Kn T _ [(0,.pointer (some ⟨p,0,none⟩)),(1,.agg #[.slice a1 n1 c1]),(2,.agg #[.slice a2 n2 c2])]:=hK
 have hS:=Fb.other hp
 have hG:GsAt [gN a1 n1 x,gN a2 n2 y] w:=⟨h1,h2,trivial⟩
 refine wq hS hG hK (fun p1=>[.n 4 #[.slice a1 n1 c1] 27,.n 5 #[.slice a2 n2 c2] 27,.n 6 #[.slice none 0 0] 27]) (fun p1=>[(0,.pointer (some ⟨p,0,none⟩)),(4,pT (p1 0).N 0),(5,pT (p1 1).N 0),(6,pT (p1 2).N 0)]) (fun p1=>?_) (fun p1 W1 T hF hK=>?_)
 ·iterate 3 refine okn ?_
  exact ok_nil
 replace hS:=SymF.fc hS hF [0,1000,1001,1002] [⟨p,cs9,t9_,false⟩,⟨(p1 0).N,#[.slice a1 n1 c1],27,true⟩,⟨(p1 1).N,#[.slice a2 n2 c2],27,true⟩,⟨(p1 2).N,#[.slice none 0 0],27,true⟩]
 replace hG:=hF.gx
 clear hF
 have z1:=hS.fr.size
 refine wq hS hG hK (fun p2=>[.v 7 (.pointer (some ⟨p,0,none⟩)),.v 8 (.pointer (some ⟨p,0,none⟩)),.v 9 (.pointer (some ⟨p,0,none⟩)),.l 10 (.agg #[.slice a1 n1 c1]) 1 0,.l 11 (.agg #[.slice a2 n2 c2]) 2 0,.c (some 12) (cO W1.heap.size v),.v 13 (.agg #[.slice (p2 5).A (p2 5).N (p2 5).C]),.v 14 (.int .i64 0),.u 15 (.agg #[.slice (p2 5).A (p2 5).N (p2 5).C]) (aG 1),.p 3 0 [.slice (p2 5).A (p2 5).N (p2 5).C]]) (fun p2=>[(6,pT (p1 2).N 0)]) (fun p2=>?_) (fun p2 W2 T hF hK=>?_)
 ·iterate 3 refine okv ?_
  iterate 2 refine okl ?_
  refine okc (fun W cx=>as_o cx.hb (unhide H _ _ _ c1 _ _ c2 (cx.G.1) (cx.G.2.1))) ?_
  iterate 2 refine okv ?_
  refine oku (fun W cx=>runNat_z p 0 _ _ _ _ ⟨_,_,cx.B 0 _ rfl (by kernel_rfl) (by kernel_rfl),hp0⟩) ?_
  refine okp ?_
  exact ok_nil
 replace hS:=SymF.fc hS hF [0,3] [⟨p,cs9,t9_,false⟩,⟨(p1 2).N,#[.slice (p2 5).A (p2 5).N (p2 5).C],27,true⟩]
 replace hG:GsAt (gM W1.heap.size (p2 5).A (p2 5).N (p2 5).C v :: _) W2:=⟨hF.fx 5,hF.gx⟩
 clear hF
 refine wp_ret ?_
 exact sym_end hS hK (.agg #[.slice (p2 5).A (p2 5).N (p2 5).C]) [(1,0,1)] [.slice (p2 5).A (p2 5).N (p2 5).C] (by kernel_rfl) (by kernel_rfl) ⟨⟨_,_,_,rfl,Mine.mono hG.1 z1⟩,hS.fr⟩
theorem zcmp (w:World) (p:Nat) (a1 a2:Option Addr) (n1 n2 c1 c2 x y:Nat) (r:Int) (hR:Rz w p 0) (h1:Num w a1 n1 x) (h2:Num w a2 n2 y) (H:Hid (∀ (W:World) (a:Option Addr) (n c:Nat) (a':Option Addr) (n' c':Nat),Num W a n x→Num W a' n' y→Calls Tryz.prog 121 #[.agg #[.slice a n c],.agg #[.slice a' n' c']] W fun en W'=>en = .returned (.tuple #[.int .i64 r,.int .i64 0])∧Below W.heap.size W W')) :
  Calls Tryz.prog 82 #[.pointer (some ⟨p,0,none⟩),.agg #[.slice a1 n1 c1],.agg #[.slice a2 n2 c2]] w fun en w'=>en = .returned (.int .i64 r)∧Below w.heap.size w w':=by
 obtain ⟨cs9,t9_,hp,hp0⟩:=hR
 refine calls_sym Tryz.func82 rfl (by kernel_rfl) fun T hK=>?_
 replace hK:Kn T _ [(0,.pointer (some ⟨p,0,none⟩)),(1,.agg #[.slice a1 n1 c1]),(2,.agg #[.slice a2 n2 c2])]:=hK
 have hS:=Fb.other hp
 have hG:GsAt [gN a1 n1 x,gN a2 n2 y] w:=⟨h1,h2,trivial⟩
 refine wq hS hG hK (fun p1=>[.n 4 #[.slice a1 n1 c1] 27,.n 5 #[.slice a2 n2 c2] 27,.v 6 (.int .i64 0)]) (fun p1=>[(0,.pointer (some ⟨p,0,none⟩)),(4,pT (p1 0).N 0),(5,pT (p1 1).N 0),(6,.int .i64 0)]) (fun p1=>?_) (fun p1 W1 T hF hK=>?_)
 ·iterate 2 refine okn ?_
  refine okv ?_
  exact ok_nil
 replace hS:=SymF.fc hS hF [0,1000,1001] [⟨p,cs9,t9_,false⟩,⟨(p1 0).N,#[.slice a1 n1 c1],27,true⟩,⟨(p1 1).N,#[.slice a2 n2 c2],27,true⟩]
 replace hG:=hF.gx
 clear hF
 refine wq hS hG hK (fun p2=>[.v 7 (.pointer (some ⟨p,0,none⟩)),.v 8 (.pointer (some ⟨p,0,none⟩)),.v 9 (.pointer (some ⟨p,0,none⟩)),.l 10 (.agg #[.slice a1 n1 c1]) 1 0,.l 11 (.agg #[.slice a2 n2 c2]) 2 0,.c (some 12) (cV (.tuple #[.int .i64 r,.int .i64 0])),.v 13 (.int .i64 r),.v 14 (.int .i64 0),.u 15 (.int .i64 r) (aG 1),.v 6 (.int .i64 r)]) (fun p2=>[(6,.int .i64 r)]) (fun p2=>?_) (fun p2 W2 T hF hK=>?_)
 ·iterate 3 refine okv ?_
  iterate 2 refine okl ?_
  refine okc (fun W cx=>as_v (unhide H _ _ _ c1 _ _ c2 (cx.G.1) (cx.G.2.1))) ?_
  iterate 2 refine okv ?_
  refine oku (fun W cx=>runInt_z p 0 _ _ ⟨_,_,cx.B 0 _ rfl (by kernel_rfl) (by kernel_rfl),hp0⟩) ?_
  refine okv ?_
  exact ok_nil
 obtain ⟨hS,hG⟩:=SymF.fg hS hF
 clear hF
 refine wp_ret ?_
 exact sym_end hS hK (.int .i64 r) [] [] (by kernel_rfl) (by kernel_rfl) ⟨rfl,hS.fr⟩
def c5 (B m1 m2 m3 m4 m5:Nat) (b:Bool):Cf:=.pl (fun q=>.agg #[.slice q.A q.N q.C,.slice q.A' q.N' q.C',.slice q.A2 q.N2 q.C2,.slice q.A3 q.N3 q.C3,.slice q.A4 q.N4 q.C4,.bool b]) (fun q W=>Mine W B q.A q.N q.C m1∧Mine W B q.A' q.N' q.C' m2∧Mine W B q.A2 q.N2 q.C2 m3∧Mine W B q.A3 q.N3 q.C3 m4∧Mine W B q.A4 q.N4 q.C4 m5) (fun _=>sta_and (sta_mine _ _ _ _ _) (sta_and (sta_mine _ _ _ _ _) (sta_and (sta_mine _ _ _ _ _) (sta_and (sta_mine _ _ _ _ _) (sta_mine _ _ _ _ _)))))
theorem zbck (w:World) (a1 a2 a3 a4:Option Addr) (n1 n2 n3 n4 c1 c2 c3 c4 m1 d1 m2 d2:Nat) (s t:Bool) (h1:Num w a1 n1 m1) (h2:Num w a2 n2 d1) (h3:Num w a3 n3 m2) (h4:Num w a4 n4 d2) (C1:Hid (∀ W:World,Num W a1 n1 m1→Num W a2 n2 d1→Calls Tryz.prog 12 #[.agg #[.bool s,.slice a1 n1 c1,.slice a2 n2 c2]] W fun e W'=>e = .returned (.int .i64 0)∧Below W.heap.size W W')) (C2:Hid (∀ W:World,Num W a3 n3 m2→Num W a4 n4 d2→Calls Tryz.prog 12 #[.agg #[.bool t,.slice a3 n3 c3,.slice a4 n4 c4]] W fun e W'=>e = .returned (.int .i64 0)∧Below W.heap.size W W'))  :
  Calls Tryz.prog 37 #[.agg #[.bool s,.slice a1 n1 c1,.slice a2 n2 c2,.bool t,.slice a3 n3 c3,.slice a4 n4 c4]] w fun en w'=>en = .returned (.int .i64 0)∧Below w.heap.size w w':=by
 refine calls_sym Tryz.func37 rfl (by kernel_rfl) fun T hK=>?_
 replace hK:Kn T _ [(0,.agg #[.bool s,.slice a1 n1 c1,.slice a2 n2 c2,.bool t,.slice a3 n3 c3,.slice a4 n4 c4])]:=hK
 have hS:=Fb.begin w
 have hG:GsAt [gN a1 n1 m1,gN a2 n2 d1,gN a3 n3 m2,gN a4 n4 d2] w:=⟨h1,h2,h3,h4,trivial⟩
 refine wq hS hG hK (fun p1=>[.n 1 #[.bool s,.slice a1 n1 c1,.slice a2 n2 c2,.bool t,.slice a3 n3 c3,.slice a4 n4 c4] 78,.v 2 (.int .i64 0)]) (fun p1=>[(1,pT (p1 0).N 0),(2,.int .i64 0)]) (fun p1=>?_) (fun p1 W1 T hF hK=>?_)
 ·refine okn ?_
  refine okv ?_
  exact ok_nil
 replace hS:=SymF.fc hS hF [1000] [⟨(p1 0).N,#[.bool s,.slice a1 n1 c1,.slice a2 n2 c2,.bool t,.slice a3 n3 c3,.slice a4 n4 c4],78,true⟩]
 replace hG:=hF.gx
 clear hF
 refine wp_seq ?_
 refine wq hS hG hK (fun p2=>[.v 4 (pT (p1 0).N 0),.l 5 (.agg #[.bool s,.slice a1 n1 c1,.slice a2 n2 c2]) 0 0,.c (some 6) (cV (.int .i64 0)),.v 3 (.int .i64 0)]) (fun p2=>[(1,pT (p1 0).N 0),(2,.int .i64 0),(3,.int .i64 0)]) (fun p2=>?_) (fun p2 W2 T hF hK=>?_)
 ·refine okv ?_
  refine okl ?_
  refine okc (fun W cx=>as_v (unhide C1 _ (cx.G.1) (cx.G.2.1))) ?_
  refine okv ?_
  exact ok_nil
 obtain ⟨hS,hG⟩:=SymF.fg hS hF
 clear hF
 refine wq hS hG hK (fun p3=>[.v 7 (.int .i64 0),.v 8 (.bool false)]) (fun p3=>[(1,pT (p1 0).N 0),(2,.int .i64 0),(3,.int .i64 0),(8,.bool false)]) (fun p3=>?_) (fun p3 W3 T hF hK=>?_)
 ·iterate 2 refine okv ?_
  exact ok_nil
 obtain ⟨hS,hG⟩:=SymF.fg hS hF
 clear hF
 refine wp_cond_false (hK.ew 8) (wp_skip (then_n ?_))
 refine wq hS hG hK (fun p4=>[.v 10 (pT (p1 0).N 3),.l 11 (.agg #[.bool t,.slice a3 n3 c3,.slice a4 n4 c4]) 0 3,.c (some 12) (cV (.int .i64 0)),.v 2 (.int .i64 0)]) (fun p4=>[(2,.int .i64 0),(3,.int .i64 0)]) (fun p4=>?_) (fun p4 W4 T hF hK=>?_)
 ·refine okv ?_
  refine okl ?_
  refine okc (fun W cx=>as_v (unhide C2 _ (cx.G.2.2.1) (cx.G.2.2.2.1))) ?_
  refine okv ?_
  exact ok_nil
 obtain ⟨hS,hG⟩:=SymF.fg hS hF
 clear hF
 refine wp_ret ?_
 exact sym_end hS hK (.int .i64 0) [] [] (by kernel_rfl) (by kernel_rfl) ⟨rfl,hS.fr⟩
end Go.Proofs.YtaidedkpfnidpaaGreatDoor
