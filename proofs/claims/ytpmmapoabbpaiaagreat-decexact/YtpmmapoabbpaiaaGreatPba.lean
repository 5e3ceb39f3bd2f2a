/- Of what DecExactRow stands on: TnRun0 RzW. -/
import Derived.Test.YtpmmapoabbpaiaaGreatPab
import Derived.Test.YtpmmapoabbpaiaaGreatPau
import Derived.Test.YtpmmapoabbpaiaaGreatPaz
import Derived.Test.YtpmmapoabbpaiaaGreatPai
namespace Go.Proofs.YtpmmapoabbpaiaaGreat
open Go.RowKit
set_option maxHeartbeats 2000000
set_option maxRecDepth 20000
theorem setCell_stillz {W:World} {b j:Nat} {cs:Array Value} {t:TypeId} {u:Value} (hb:W.heap[b]? = some (.cells cs t (0,0))) (hc:cs[j]? = some u):W.setCell ⟨b,j,none⟩ u = W:=by
 have he:(W.setCell ⟨b,j,none⟩ u).heap = W.heap:=by
  apply Array.ext_getElem?
  intro k
  by_cases hk:k = b
  ·subst hk
   rw [heap_setCell_same W k j _ _ _ hb,hb]
   congr 2
   apply Array.ext_getElem?
   intro i
   by_cases hi:i = j
   ·subst hi
    obtain ⟨hlt,_⟩:=Array.getElem?_eq_some_iff.1 hc
    rw [hc]; simp [hlt]
   ·rw [Array.getElem?_setIfInBounds_ne (Ne.symm hi)]
  ·rw [heap_setCell_other W _ k u hk]
 have:W.setCell ⟨b,j,none⟩ u = { W with heap:=(W.setCell ⟨b,j,none⟩ u).heap }:=rfl
 rw [this,he]
def Rz (w:World) (p k:Nat):Prop:=∃ cs t,w.heap[p]? = some (.cells cs t (0,0))∧cs[k]? = some (.int .i64 0)
theorem Rz.kept {w w':World} {p k:Nat} (h:Rz w p k) (hb:Below w.heap.size w w'):Rz w' p k:=by
 obtain ⟨cs,t,h1,h2⟩:=h
 exact ⟨cs,t,by rw [hb.block _ (block_lt h1)]; exact h1,h2⟩
theorem Rz.cell {w:World} {p k:Nat} (h:Rz w p k):w.cell? ⟨p,k,none⟩ = some (.int .i64 0)∧w.frozen? ⟨p,k,none⟩ = false:=by
 obtain ⟨cs,t,h1,h2⟩:=h
 exact ⟨by rw [cell_of_row w p k _ _ _ h1]; exact h2,frozen_of_row w p k _ _ h1⟩
theorem Rz.still {w:World} {p k:Nat} (h:Rz w p k):w.setCell ⟨p,k,none⟩ (.int .i64 0) = w:=by
 obtain ⟨cs,t,h1,h2⟩:=h
 exact setCell_stillz h1 h2
theorem keep_z (p k:Nat) (w:World) (h:Rz w p k) :
  Calls Tryz.prog 62 #[.pointer (some ⟨p,k,none⟩),.int .i64 0] w fun en w'=>en = .returned (.tuple #[])∧Below w.heap.size w w':=by
 obtain ⟨h1,h2⟩:=h.cell
 have h3:=h.still
 go_enter Tryz.func62,Tryz.ntmps62
 go_wp2
 go_end0
 exact ⟨rfl,Below.refl _ _⟩
theorem runNat_z (p k:Nat) (a:Option Addr) (n cap:Nat) (w:World) (h:Rz w p k) :
  Calls Tryz.prog 24 #[.pointer (some ⟨p,k,none⟩),.agg #[.slice a n cap],.int .i64 0] w fun e w'=>e = .returned (.agg #[.slice a n cap])∧Below w.heap.size w w':=by
 have H:=hide h
 clear h
 go_enter Tryz.func24,Tryz.ntmps24
 go_wp2_with fail
 refine (keep_z p k _ ((unhide H).kept (Fs.two w _ _ _ _).fr)).mono ?_
 rintro e w1 ⟨rfl,hb1⟩
 have hS:=(Fs.two w _ _ _ _).kept hb1
 obtain ⟨⟨ya,-⟩,⟨yb,-⟩,-⟩:=hS.cells
 have fz0:=hS.frozen (b:=w.heap.size+1) (cs:=#[.slice none 0 0]) (t:=26) (by simp) 0
 go_wp2
 exact bodyPost_ret (v:=.agg #[.slice a n cap]) (by simp [results,Tryz.results24,go_sem,yb]) rfl ⟨rfl,(hS.fr.setCell (by simp <;> omega) _)⟩
theorem runLess_z (p k:Nat) (a:Option Addr) (n cap:Nat) (t:Bool) (w:World) (h:Rz w p k) :
  Calls Tryz.prog 134 #[.pointer (some ⟨p,k,none⟩),.agg #[.slice a n cap],.bool t,.int .i64 0] w fun e w'=>e = .returned (.agg #[.slice a n cap])∧Below w.heap.size w w':=by
 have H:=hide h
 clear h
 go_enter Tryz.func134,Tryz.ntmps134
 go_wp2_with fail
 refine (keep_z p k _ ((unhide H).kept (Fs.two w _ _ _ _).fr)).mono ?_
 rintro e w1 ⟨rfl,hb1⟩
 have hS:=(Fs.two w _ _ _ _).kept hb1
 obtain ⟨⟨ya,-⟩,⟨yb,-⟩,-⟩:=hS.cells
 have fz0:=hS.frozen (b:=w.heap.size+1) (cs:=#[.slice none 0 0]) (t:=26) (by simp) 0
 go_wp2
 exact bodyPost_ret (v:=.agg #[.slice a n cap]) (by simp [results,Tryz.results134,go_sem,yb]) rfl ⟨rfl,(hS.fr.setCell (by simp <;> omega) _)⟩
theorem runInt_z (p k:Nat) (c:Int) (w:World) (h:Rz w p k) :
  Calls Tryz.prog 117 #[.pointer (some ⟨p,k,none⟩),.int .i64 c,.int .i64 0] w fun e w'=>e = .returned (.int .i64 c)∧Below w.heap.size w w':=by
 have H:=hide h
 clear h
 go_enter Tryz.func117,Tryz.ntmps117
 go_wp2_with fail
 refine (keep_z p k _ (unhide H)).mono ?_
 rintro e w1 ⟨rfl,hb1⟩
 have hS:=(Fs.begin w).kept hb1
 go_wp2
 go_ret
 exact ⟨rfl,hS.fr⟩
theorem runNats_z (p k:Nat) (a:Option Addr) (n cap:Nat) (a':Option Addr) (n' cap':Nat) (w:World) (h:Rz w p k) :
  Calls Tryz.prog 124 #[.pointer (some ⟨p,k,none⟩),.agg #[.slice a n cap],.agg #[.slice a' n' cap'],.int .i64 0] w fun e w'=>e = .returned (.tuple #[.agg #[.slice a n cap],.agg #[.slice a' n' cap']])∧Below w.heap.size w w':=by
 have H:=hide h
 clear h
 go_enter Tryz.func124,Tryz.ntmps124
 go_wp2_with fail
 have hS:=(Fs.three w #[.slice a n cap] 26 #[.slice a' n' cap'] 26 #[.slice none 0 0] 26).alloc #[.slice none 0 0] 26
 simp only [World.size_alloc] at hS
 refine (keep_z p k _ ((unhide H).kept hS.fr)).mono ?_
 rintro e w1 ⟨rfl,hb1⟩
 replace hS:=hS.kept hb1
 obtain ⟨⟨ya,-⟩,⟨yb,-⟩,⟨yc,-⟩,⟨yd,-⟩,-⟩:=hS.cells
 have fy0:=hS.frozen (b:=w.heap.size+2) (cs:=#[.slice none 0 0]) (t:=26) (by simp) 0
 have fz0:=hS.frozen (b:=w.heap.size+3) (cs:=#[.slice none 0 0]) (t:=26) (by simp) 0
 go_wp2
 go_region
 go_wp2
 exact bodyPost_ret (v:=.tuple #[.agg #[.slice a n cap],.agg #[.slice a' n' cap']]) (by simp [results,Tryz.results124,go_sem,ya,yd]) rfl ⟨rfl,((hS.fr.setCell (show w.heap.size≤w.heap.size+1+1 by omega) _).setCell (show w.heap.size≤w.heap.size+1+1+1 by omega) _).drew⟩
def WTwo (f:FuncId) (p x y v:Nat):Prop:=∀ (W:World) (a:Option Addr) (n c:Nat) (a':Option Addr) (n' c':Nat),Rz W p 0→Num W a n x→Num W a' n' y→Calls Tryz.prog f #[.pointer (some ⟨p,0,none⟩),.agg #[.slice a n c],.agg #[.slice a' n' c']] W fun en W'=>(∃ A N C,en = .returned (.agg #[.slice A N C])∧Mine W' W.heap.size A N C v)∧Below W.heap.size W W'
def WDiv (p x y q r:Nat):Prop:=∀ (W:World) (a:Option Addr) (n c:Nat) (a':Option Addr) (n' c':Nat),Rz W p 0→Num W a n x→Num W a' n' y→Calls Tryz.prog 101 #[.pointer (some ⟨p,0,none⟩),.agg #[.slice a n c],.agg #[.slice a' n' c']] W fun en W'=>(∃ A N C A' N' C',en = .returned (.tuple #[.agg #[.slice A N C],.agg #[.slice A' N' C']])∧Mine W' W.heap.size A N C q∧Mine W' W.heap.size A' N' C' r)∧Below W.heap.size W W'
def WCmp (p x y:Nat) (r:Int):Prop:=∀ (W:World) (a:Option Addr) (n c:Nat) (a':Option Addr) (n' c':Nat),Rz W p 0→Num W a n x→Num W a' n' y→Calls Tryz.prog 92 #[.pointer (some ⟨p,0,none⟩),.agg #[.slice a n c],.agg #[.slice a' n' c']] W fun en W'=>en = .returned (.int .i64 r)∧Below W.heap.size W W'
def WMo (p x y z q r:Nat):Prop:=∀ (W:World) (a:Option Addr) (n c:Nat) (a':Option Addr) (n' c':Nat) (a2:Option Addr) (n2 c2:Nat),Rz W p 0→Num W a n x→Num W a' n' y→Num W a2 n2 z→Calls Tryz.prog 131 #[.pointer (some ⟨p,0,none⟩),.agg #[.slice a n c],.agg #[.slice a' n' c'],.agg #[.slice a2 n2 c2]] W fun en W'=>(∃ A N C A' N' C',en = .returned (.tuple #[.agg #[.slice A N C],.agg #[.slice A' N' C']])∧Mine W' W.heap.size A N C q∧Mine W' W.heap.size A' N' C' r)∧Below W.heap.size W W'
theorem zadd (w:World) (p:Nat) (a1 a2:Option Addr) (n1 n2 c1 c2 x y v:Nat) (hR:Rz w p 0) (h1:Num w a1 n1 x) (h2:Num w a2 n2 y) (H:Hid (∀ (W:World) (a:Option Addr) (n c:Nat) (a':Option Addr) (n' c':Nat),Num W a n x→Num W a' n' y→Calls Tryz.prog 133 #[.agg #[.slice a n c],.agg #[.slice a' n' c']] W fun en W'=>(∃ A N C,en = .returned (.tuple #[.agg #[.slice A N C],.int .i64 0])∧Mine W' W.heap.size A N C v)∧Below W.heap.size W W')) :
  Calls Tryz.prog 114 #[.pointer (some ⟨p,0,none⟩),.agg #[.slice a1 n1 c1],.agg #[.slice a2 n2 c2]] w fun en w'=>(∃ A N C,en = .returned (.agg #[.slice A N C])∧Mine w' w.heap.size A N C v)∧Below w.heap.size w w':=by
 obtain ⟨cs9,t9_,hp,hp0⟩:=hR
 refine calls_sym Tryz.func114 rfl (by kernel_rfl) fun T hK=>?_
 replace hK:Kn T _ [(0,.pointer (some ⟨p,0,none⟩)),(1,.agg #[.slice a1 n1 c1]),(2,.agg #[.slice a2 n2 c2])]:=hK
 have hS:=Fb.other hp
 have hG:GsAt [gN a1 n1 x,gN a2 n2 y] w:=⟨h1,h2,trivial⟩
 refine wq hS hG hK (fun p1=>[.n 4 #[.slice a1 n1 c1] 26,.n 5 #[.slice a2 n2 c2] 26,.n 6 #[.slice none 0 0] 26]) (fun p1=>[(0,.pointer (some ⟨p,0,none⟩)),(4,pT (p1 0).N 0),(5,pT (p1 1).N 0),(6,pT (p1 2).N 0)]) (fun p1=>?_) (fun p1 W1 T hF hK=>?_)
 ·iterate 3 refine okn ?_
  exact ok_nil
 replace hS:=SymF.fc hS hF [0,1000,1001,1002] [⟨p,cs9,t9_,false⟩,⟨(p1 0).N,#[.slice a1 n1 c1],26,true⟩,⟨(p1 1).N,#[.slice a2 n2 c2],26,true⟩,⟨(p1 2).N,#[.slice none 0 0],26,true⟩]
 replace hG:=hF.gx
 clear hF
 have z1:=hS.fr.size
 refine wq hS hG hK (fun p2=>[.v 7 (.pointer (some ⟨p,0,none⟩)),.v 8 (.pointer (some ⟨p,0,none⟩)),.v 9 (.pointer (some ⟨p,0,none⟩)),.l 10 (.agg #[.slice a1 n1 c1]) 1 0,.l 11 (.agg #[.slice a2 n2 c2]) 2 0,.c (some 12) (cO W1.heap.size v),.v 13 (.agg #[.slice (p2 5).A (p2 5).N (p2 5).C]),.v 14 (.int .i64 0),.u 15 (.agg #[.slice (p2 5).A (p2 5).N (p2 5).C]) (aG 1),.p 3 0 [.slice (p2 5).A (p2 5).N (p2 5).C]]) (fun p2=>[(6,pT (p1 2).N 0)]) (fun p2=>?_) (fun p2 W2 T hF hK=>?_)
 ·iterate 3 refine okv ?_
  iterate 2 refine okl ?_
  refine okc (fun W cx=>as_o cx.hb (unhide H _ _ _ c1 _ _ c2 (cx.G.1) (cx.G.2.1))) ?_
  iterate 2 refine okv ?_
  refine oku (fun W cx=>runNat_z p 0 _ _ _ _ ⟨_,_,cx.B 0 _ rfl (by kernel_rfl) (by kernel_rfl),hp0⟩) ?_
  refine okp ?_
  exact ok_nil
 replace hS:=SymF.fc hS hF [0,3] [⟨p,cs9,t9_,false⟩,⟨(p1 2).N,#[.slice (p2 5).A (p2 5).N (p2 5).C],26,true⟩]
 replace hG:GsAt (gM W1.heap.size (p2 5).A (p2 5).N (p2 5).C v :: _) W2:=⟨hF.fx 5,hF.gx⟩
 clear hF
 refine wp_ret ?_
 exact sym_end hS hK (.agg #[.slice (p2 5).A (p2 5).N (p2 5).C]) [(1,0,1)] [.slice (p2 5).A (p2 5).N (p2 5).C] (by kernel_rfl) (by kernel_rfl) ⟨⟨_,_,_,rfl,Mine.mono hG.1 z1⟩,hS.fr⟩
theorem zmul (w:World) (p:Nat) (a1 a2:Option Addr) (n1 n2 c1 c2 x y v:Nat) (hR:Rz w p 0) (h1:Num w a1 n1 x) (h2:Num w a2 n2 y) (H:Hid (∀ (W:World) (a:Option Addr) (n c:Nat) (a':Option Addr) (n' c':Nat),Num W a n x→Num W a' n' y→Calls Tryz.prog 25 #[.agg #[.slice a n c],.agg #[.slice a' n' c']] W fun en W'=>(∃ A N C,en = .returned (.tuple #[.agg #[.slice A N C],.int .i64 0])∧Mine W' W.heap.size A N C v)∧Below W.heap.size W W')) :
  Calls Tryz.prog 89 #[.pointer (some ⟨p,0,none⟩),.agg #[.slice a1 n1 c1],.agg #[.slice a2 n2 c2]] w fun en w'=>(∃ A N C,en = .returned (.agg #[.slice A N C])∧Mine w' w.heap.size A N C v)∧Below w.heap.size w w':=by
 obtain ⟨cs9,t9_,hp,hp0⟩:=hR
 refine calls_sym Tryz.func89 rfl (by kernel_rfl) fun T hK=>?_
 replace hK:Kn T _ [(0,.pointer (some ⟨p,0,none⟩)),(1,.agg #[.slice a1 n1 c1]),(2,.agg #[.slice a2 n2 c2])]:=hK
 have hS:=Fb.other hp
 have hG:GsAt [gN a1 n1 x,gN a2 n2 y] w:=⟨h1,h2,trivial⟩
 refine wq hS hG hK (fun p1=>[.n 4 #[.slice a1 n1 c1] 26,.n 5 #[.slice a2 n2 c2] 26,.n 6 #[.slice none 0 0] 26]) (fun p1=>[(0,.pointer (some ⟨p,0,none⟩)),(4,pT (p1 0).N 0),(5,pT (p1 1).N 0),(6,pT (p1 2).N 0)]) (fun p1=>?_) (fun p1 W1 T hF hK=>?_)
 ·iterate 3 refine okn ?_
  exact ok_nil
 replace hS:=SymF.fc hS hF [0,1000,1001,1002] [⟨p,cs9,t9_,false⟩,⟨(p1 0).N,#[.slice a1 n1 c1],26,true⟩,⟨(p1 1).N,#[.slice a2 n2 c2],26,true⟩,⟨(p1 2).N,#[.slice none 0 0],26,true⟩]
 replace hG:=hF.gx
 clear hF
 have z1:=hS.fr.size
 refine wq hS hG hK (fun p2=>[.v 7 (.pointer (some ⟨p,0,none⟩)),.v 8 (.pointer (some ⟨p,0,none⟩)),.v 9 (.pointer (some ⟨p,0,none⟩)),.l 10 (.agg #[.slice a1 n1 c1]) 1 0,.l 11 (.agg #[.slice a2 n2 c2]) 2 0,.c (some 12) (cO W1.heap.size v),.v 13 (.agg #[.slice (p2 5).A (p2 5).N (p2 5).C]),.v 14 (.int .i64 0),.u 15 (.agg #[.slice (p2 5).A (p2 5).N (p2 5).C]) (aG 1),.p 3 0 [.slice (p2 5).A (p2 5).N (p2 5).C]]) (fun p2=>[(6,pT (p1 2).N 0)]) (fun p2=>?_) (fun p2 W2 T hF hK=>?_)
 ·iterate 3 refine okv ?_
  iterate 2 refine okl ?_
  refine okc (fun W cx=>as_o cx.hb (unhide H _ _ _ c1 _ _ c2 (cx.G.1) (cx.G.2.1))) ?_
  iterate 2 refine okv ?_
  refine oku (fun W cx=>runNat_z p 0 _ _ _ _ ⟨_,_,cx.B 0 _ rfl (by kernel_rfl) (by kernel_rfl),hp0⟩) ?_
  refine okp ?_
  exact ok_nil
 replace hS:=SymF.fc hS hF [0,3] [⟨p,cs9,t9_,false⟩,⟨(p1 2).N,#[.slice (p2 5).A (p2 5).N (p2 5).C],26,true⟩]
 replace hG:GsAt (gM W1.heap.size (p2 5).A (p2 5).N (p2 5).C v :: _) W2:=⟨hF.fx 5,hF.gx⟩
 clear hF
 refine wp_ret ?_
 exact sym_end hS hK (.agg #[.slice (p2 5).A (p2 5).N (p2 5).C]) [(1,0,1)] [.slice (p2 5).A (p2 5).N (p2 5).C] (by kernel_rfl) (by kernel_rfl) ⟨⟨_,_,_,rfl,Mine.mono hG.1 z1⟩,hS.fr⟩
theorem zgcd (w:World) (p:Nat) (a1 a2:Option Addr) (n1 n2 c1 c2 x y v:Nat) (hR:Rz w p 0) (h1:Num w a1 n1 x) (h2:Num w a2 n2 y) (H:Hid (∀ (W:World) (a:Option Addr) (n c:Nat) (a':Option Addr) (n' c':Nat),Num W a n x→Num W a' n' y→Calls Tryz.prog 72 #[.agg #[.slice a n c],.agg #[.slice a' n' c']] W fun en W'=>(∃ A N C,en = .returned (.tuple #[.agg #[.slice A N C],.int .i64 0])∧Mine W' W.heap.size A N C v)∧Below W.heap.size W W')) :
  Calls Tryz.prog 69 #[.pointer (some ⟨p,0,none⟩),.agg #[.slice a1 n1 c1],.agg #[.slice a2 n2 c2]] w fun en w'=>(∃ A N C,en = .returned (.agg #[.slice A N C])∧Mine w' w.heap.size A N C v)∧Below w.heap.size w w':=by
 obtain ⟨cs9,t9_,hp,hp0⟩:=hR
 refine calls_sym Tryz.func69 rfl (by kernel_rfl) fun T hK=>?_
 replace hK:Kn T _ [(0,.pointer (some ⟨p,0,none⟩)),(1,.agg #[.slice a1 n1 c1]),(2,.agg #[.slice a2 n2 c2])]:=hK
 have hS:=Fb.other hp
 have hG:GsAt [gN a1 n1 x,gN a2 n2 y] w:=⟨h1,h2,trivial⟩
 refine wq hS hG hK (fun p1=>[.n 4 #[.slice a1 n1 c1] 26,.n 5 #[.slice a2 n2 c2] 26,.n 6 #[.slice none 0 0] 26]) (fun p1=>[(0,.pointer (some ⟨p,0,none⟩)),(4,pT (p1 0).N 0),(5,pT (p1 1).N 0),(6,pT (p1 2).N 0)]) (fun p1=>?_) (fun p1 W1 T hF hK=>?_)
 ·iterate 3 refine okn ?_
  exact ok_nil
 replace hS:=SymF.fc hS hF [0,1000,1001,1002] [⟨p,cs9,t9_,false⟩,⟨(p1 0).N,#[.slice a1 n1 c1],26,true⟩,⟨(p1 1).N,#[.slice a2 n2 c2],26,true⟩,⟨(p1 2).N,#[.slice none 0 0],26,true⟩]
 replace hG:=hF.gx
 clear hF
 have z1:=hS.fr.size
 refine wq hS hG hK (fun p2=>[.v 7 (.pointer (some ⟨p,0,none⟩)),.v 8 (.pointer (some ⟨p,0,none⟩)),.v 9 (.pointer (some ⟨p,0,none⟩)),.l 10 (.agg #[.slice a1 n1 c1]) 1 0,.l 11 (.agg #[.slice a2 n2 c2]) 2 0,.c (some 12) (cO W1.heap.size v),.v 13 (.agg #[.slice (p2 5).A (p2 5).N (p2 5).C]),.v 14 (.int .i64 0),.u 15 (.agg #[.slice (p2 5).A (p2 5).N (p2 5).C]) (aG 1),.p 3 0 [.slice (p2 5).A (p2 5).N (p2 5).C]]) (fun p2=>[(6,pT (p1 2).N 0)]) (fun p2=>?_) (fun p2 W2 T hF hK=>?_)
 ·iterate 3 refine okv ?_
  iterate 2 refine okl ?_
  refine okc (fun W cx=>as_o cx.hb (unhide H _ _ _ c1 _ _ c2 (cx.G.1) (cx.G.2.1))) ?_
  iterate 2 refine okv ?_
  refine oku (fun W cx=>runNat_z p 0 _ _ _ _ ⟨_,_,cx.B 0 _ rfl (by kernel_rfl) (by kernel_rfl),hp0⟩) ?_
  refine okp ?_
  exact ok_nil
 replace hS:=SymF.fc hS hF [0,3] [⟨p,cs9,t9_,false⟩,⟨(p1 2).N,#[.slice (p2 5).A (p2 5).N (p2 5).C],26,true⟩]
 replace hG:GsAt (gM W1.heap.size (p2 5).A (p2 5).N (p2 5).C v :: _) W2:=⟨hF.fx 5,hF.gx⟩
 clear hF
 refine wp_ret ?_
 exact sym_end hS hK (.agg #[.slice (p2 5).A (p2 5).N (p2 5).C]) [(1,0,1)] [.slice (p2 5).A (p2 5).N (p2 5).C] (by kernel_rfl) (by kernel_rfl) ⟨⟨_,_,_,rfl,Mine.mono hG.1 z1⟩,hS.fr⟩
theorem zsub (w:World) (p:Nat) (a1 a2:Option Addr) (n1 n2 c1 c2 x y v:Nat) (g:Bool) (hR:Rz w p 0) (h1:Num w a1 n1 x) (h2:Num w a2 n2 y) (H:Hid (∀ (W:World) (a:Option Addr) (n c:Nat) (a':Option Addr) (n' c':Nat),Num W a n x→Num W a' n' y→Calls Tryz.prog 135 #[.agg #[.slice a n c],.agg #[.slice a' n' c']] W fun en W'=>(∃ A N C,en = .returned (.tuple #[.agg #[.slice A N C],.bool g,.int .i64 0])∧Mine W' W.heap.size A N C v)∧Below W.heap.size W W')) :
  Calls Tryz.prog 116 #[.pointer (some ⟨p,0,none⟩),.agg #[.slice a1 n1 c1],.agg #[.slice a2 n2 c2]] w fun en w'=>(∃ A N C,en = .returned (.agg #[.slice A N C])∧Mine w' w.heap.size A N C v)∧Below w.heap.size w w':=by
 obtain ⟨cs9,t9_,hp,hp0⟩:=hR
 refine calls_sym Tryz.func116 rfl (by kernel_rfl) fun T hK=>?_
 replace hK:Kn T _ [(0,.pointer (some ⟨p,0,none⟩)),(1,.agg #[.slice a1 n1 c1]),(2,.agg #[.slice a2 n2 c2])]:=hK
 have hS:=Fb.other hp
 have hG:GsAt [gN a1 n1 x,gN a2 n2 y] w:=⟨h1,h2,trivial⟩
 refine wq hS hG hK (fun p1=>[.n 4 #[.slice a1 n1 c1] 26,.n 5 #[.slice a2 n2 c2] 26,.n 6 #[.slice none 0 0] 26]) (fun p1=>[(0,.pointer (some ⟨p,0,none⟩)),(4,pT (p1 0).N 0),(5,pT (p1 1).N 0),(6,pT (p1 2).N 0)]) (fun p1=>?_) (fun p1 W1 T hF hK=>?_)
 ·iterate 3 refine okn ?_
  exact ok_nil
 replace hS:=SymF.fc hS hF [0,1000,1001,1002] [⟨p,cs9,t9_,false⟩,⟨(p1 0).N,#[.slice a1 n1 c1],26,true⟩,⟨(p1 1).N,#[.slice a2 n2 c2],26,true⟩,⟨(p1 2).N,#[.slice none 0 0],26,true⟩]
 replace hG:=hF.gx
 clear hF
 have z1:=hS.fr.size
 refine wq hS hG hK (fun p2=>[.v 7 (.pointer (some ⟨p,0,none⟩)),.v 8 (.pointer (some ⟨p,0,none⟩)),.v 9 (.pointer (some ⟨p,0,none⟩)),.l 10 (.agg #[.slice a1 n1 c1]) 1 0,.l 11 (.agg #[.slice a2 n2 c2]) 2 0,.c (some 12) (cG W1.heap.size v fun x9=>.tuple #[.agg #[x9],.bool g,.int .i64 0]),.v 13 (.agg #[.slice (p2 5).A (p2 5).N (p2 5).C]),.v 14 (.bool g),.v 15 (.int .i64 0),.u 16 (.agg #[.slice (p2 5).A (p2 5).N (p2 5).C]) (aG 1),.p 3 0 [.slice (p2 5).A (p2 5).N (p2 5).C]]) (fun p2=>[(6,pT (p1 2).N 0)]) (fun p2=>?_) (fun p2 W2 T hF hK=>?_)
 ·iterate 3 refine okv ?_
  iterate 2 refine okl ?_
  refine okc (fun W cx=>as_g cx.hb (unhide H _ _ _ c1 _ _ c2 (cx.G.1) (cx.G.2.1))) ?_
  iterate 3 refine okv ?_
  refine oku (fun W cx=>runLess_z p 0 _ _ _ g _ ⟨_,_,cx.B 0 _ rfl (by kernel_rfl) (by kernel_rfl),hp0⟩) ?_
  refine okp ?_
  exact ok_nil
 replace hS:=SymF.fc hS hF [0,3] [⟨p,cs9,t9_,false⟩,⟨(p1 2).N,#[.slice (p2 5).A (p2 5).N (p2 5).C],26,true⟩]
 replace hG:GsAt (gM W1.heap.size (p2 5).A (p2 5).N (p2 5).C v :: _) W2:=⟨hF.fx 5,hF.gx⟩
 clear hF
 refine wp_ret ?_
 exact sym_end hS hK (.agg #[.slice (p2 5).A (p2 5).N (p2 5).C]) [(1,0,1)] [.slice (p2 5).A (p2 5).N (p2 5).C] (by kernel_rfl) (by kernel_rfl) ⟨⟨_,_,_,rfl,Mine.mono hG.1 z1⟩,hS.fr⟩
theorem zdiv (w:World) (p:Nat) (a1 a2:Option Addr) (n1 n2 c1 c2 x y v u:Nat) (hR:Rz w p 0) (h1:Num w a1 n1 x) (h2:Num w a2 n2 y) (H:Hid (∀ (W:World) (a:Option Addr) (n c:Nat) (a':Option Addr) (n' c':Nat),Num W a n x→Num W a' n' y→Calls Tryz.prog 107 #[.agg #[.slice a n c],.agg #[.slice a' n' c']] W fun en W'=>(∃ A N C A' N' C',en = .returned (.tuple #[.agg #[.slice A N C],.agg #[.slice A' N' C'],.int .i64 0])∧Mine W' W.heap.size A N C v∧Mine W' W.heap.size A' N' C' u)∧Below W.heap.size W W')) :
  Calls Tryz.prog 101 #[.pointer (some ⟨p,0,none⟩),.agg #[.slice a1 n1 c1],.agg #[.slice a2 n2 c2]] w fun en w'=>(∃ A N C A' N' C',en = .returned (.tuple #[.agg #[.slice A N C],.agg #[.slice A' N' C']])∧Mine w' w.heap.size A N C v∧Mine w' w.heap.size A' N' C' u)∧Below w.heap.size w w':=by
 obtain ⟨cs9,t9_,hp,hp0⟩:=hR
 refine calls_sym Tryz.func101 rfl (by kernel_rfl) fun T hK=>?_
 replace hK:Kn T _ [(0,.pointer (some ⟨p,0,none⟩)),(1,.agg #[.slice a1 n1 c1]),(2,.agg #[.slice a2 n2 c2])]:=hK
 have hS:=Fb.other hp
 have hG:GsAt [gN a1 n1 x,gN a2 n2 y] w:=⟨h1,h2,trivial⟩
 refine wq hS hG hK (fun p1=>[.n 4 #[.slice a1 n1 c1] 26,.n 5 #[.slice a2 n2 c2] 26,.n 6 #[.slice none 0 0] 26,.n 7 #[.slice none 0 0] 26]) (fun p1=>[(0,.pointer (some ⟨p,0,none⟩)),(4,pT (p1 0).N 0),(5,pT (p1 1).N 0),(6,pT (p1 2).N 0),(7,pT (p1 3).N 0)]) (fun p1=>?_) (fun p1 W1 T hF hK=>?_)
 ·iterate 4 refine okn ?_
  exact ok_nil
 replace hS:=SymF.fc hS hF [0,1000,1001,1002,1003] [⟨p,cs9,t9_,false⟩,⟨(p1 0).N,#[.slice a1 n1 c1],26,true⟩,⟨(p1 1).N,#[.slice a2 n2 c2],26,true⟩,⟨(p1 2).N,#[.slice none 0 0],26,true⟩,⟨(p1 3).N,#[.slice none 0 0],26,true⟩]
 replace hG:=hF.gx
 clear hF
 have z1:=hS.fr.size
 refine wq hS hG hK (fun p2=>[.v 8 (.pointer (some ⟨p,0,none⟩)),.v 9 (.pointer (some ⟨p,0,none⟩)),.v 10 (.pointer (some ⟨p,0,none⟩)),.l 11 (.agg #[.slice a1 n1 c1]) 1 0,.l 12 (.agg #[.slice a2 n2 c2]) 2 0,.c (some 13) (cD W1.heap.size v u),.v 14 (.agg #[.slice (p2 5).A (p2 5).N (p2 5).C]),.v 15 (.agg #[.slice (p2 5).A' (p2 5).N' (p2 5).C']),.v 16 (.int .i64 0),.u 17 (.tuple #[.agg #[.slice (p2 5).A (p2 5).N (p2 5).C],.agg #[.slice (p2 5).A' (p2 5).N' (p2 5).C']]) (aH 1 2),.v 18 (.agg #[.slice (p2 5).A (p2 5).N (p2 5).C]),.v 19 (.agg #[.slice (p2 5).A' (p2 5).N' (p2 5).C']),.p 3 0 [.slice (p2 5).A (p2 5).N (p2 5).C],.p 4 0 [.slice (p2 5).A' (p2 5).N' (p2 5).C']]) (fun p2=>[(6,pT (p1 2).N 0),(7,pT (p1 3).N 0)]) (fun p2=>?_) (fun p2 W2 T hF hK=>?_)
 ·iterate 3 refine okv ?_
  iterate 2 refine okl ?_
  refine okc (fun W cx=>as_d cx.hb (unhide H _ _ _ c1 _ _ c2 (cx.G.1) (cx.G.2.1))) ?_
  iterate 3 refine okv ?_
  refine oku (fun W cx=>runNats_z p 0 _ _ _ _ _ _ _ ⟨_,_,cx.B 0 _ rfl (by kernel_rfl) (by kernel_rfl),hp0⟩) ?_
  iterate 2 refine okv ?_
  iterate 2 refine okp ?_
  exact ok_nil
 replace hS:=SymF.fc hS hF [0,3,4] [⟨p,cs9,t9_,false⟩,⟨(p1 2).N,#[.slice (p2 5).A (p2 5).N (p2 5).C],26,true⟩,⟨(p1 3).N,#[.slice (p2 5).A' (p2 5).N' (p2 5).C'],26,true⟩]
 replace hG:GsAt (gM W1.heap.size (p2 5).A (p2 5).N (p2 5).C v :: gM W1.heap.size (p2 5).A' (p2 5).N' (p2 5).C' u :: _) W2:=⟨And.left (hF.fx 5),And.right (hF.fx 5),hF.gx⟩
 clear hF
 refine wp_ret ?_
 exact sym_end hS hK (.tuple #[.agg #[.slice (p2 5).A (p2 5).N (p2 5).C],.agg #[.slice (p2 5).A' (p2 5).N' (p2 5).C']]) [(1,0,1),(2,0,1)] [.slice (p2 5).A (p2 5).N (p2 5).C,.slice (p2 5).A' (p2 5).N' (p2 5).C'] (by kernel_rfl) (by kernel_rfl) ⟨⟨_,_,_,_,_,_,rfl,Mine.mono hG.1 z1,Mine.mono hG.2.1 z1⟩,hS.fr⟩
theorem zcmp (w:World) (p:Nat) (a1 a2:Option Addr) (n1 n2 c1 c2 x y:Nat) (r:Int) (hR:Rz w p 0) (h1:Num w a1 n1 x) (h2:Num w a2 n2 y) (H:Hid (∀ (W:World) (a:Option Addr) (n c:Nat) (a':Option Addr) (n' c':Nat),Num W a n x→Num W a' n' y→Calls Tryz.prog 118 #[.agg #[.slice a n c],.agg #[.slice a' n' c']] W fun en W'=>en = .returned (.tuple #[.int .i64 r,.int .i64 0])∧Below W.heap.size W W')) :
  Calls Tryz.prog 92 #[.pointer (some ⟨p,0,none⟩),.agg #[.slice a1 n1 c1],.agg #[.slice a2 n2 c2]] w fun en w'=>en = .returned (.int .i64 r)∧Below w.heap.size w w':=by
 obtain ⟨cs9,t9_,hp,hp0⟩:=hR
 refine calls_sym Tryz.func92 rfl (by kernel_rfl) fun T hK=>?_
 replace hK:Kn T _ [(0,.pointer (some ⟨p,0,none⟩)),(1,.agg #[.slice a1 n1 c1]),(2,.agg #[.slice a2 n2 c2])]:=hK
 have hS:=Fb.other hp
 have hG:GsAt [gN a1 n1 x,gN a2 n2 y] w:=⟨h1,h2,trivial⟩
 refine wq hS hG hK (fun p1=>[.n 4 #[.slice a1 n1 c1] 26,.n 5 #[.slice a2 n2 c2] 26,.v 6 (.int .i64 0)]) (fun p1=>[(0,.pointer (some ⟨p,0,none⟩)),(4,pT (p1 0).N 0),(5,pT (p1 1).N 0),(6,.int .i64 0)]) (fun p1=>?_) (fun p1 W1 T hF hK=>?_)
 ·iterate 2 refine okn ?_
  refine okv ?_
  exact ok_nil
 replace hS:=SymF.fc hS hF [0,1000,1001] [⟨p,cs9,t9_,false⟩,⟨(p1 0).N,#[.slice a1 n1 c1],26,true⟩,⟨(p1 1).N,#[.slice a2 n2 c2],26,true⟩]
 replace hG:=hF.gx
 clear hF
 refine wq hS hG hK (fun p2=>[.v 7 (.pointer (some ⟨p,0,none⟩)),.v 8 (.pointer (some ⟨p,0,none⟩)),.v 9 (.pointer (some ⟨p,0,none⟩)),.l 10 (.agg #[.slice a1 n1 c1]) 1 0,.l 11 (.agg #[.slice a2 n2 c2]) 2 0,.c (some 12) (cV (.tuple #[.int .i64 r,.int .i64 0])),.v 13 (.int .i64 r),.v 14 (.int .i64 0),.u 15 (.int .i64 r) (aG 1),.v 6 (.int .i64 r)]) (fun p2=>[(6,.int .i64 r)]) (fun p2=>?_) (fun p2 W2 T hF hK=>?_)
 ·iterate 3 refine okv ?_
  iterate 2 refine okl ?_
  refine okc (fun W cx=>as_v (unhide H _ _ _ c1 _ _ c2 (cx.G.1) (cx.G.2.1))) ?_
  iterate 2 refine okv ?_
  refine oku (fun W cx=>runInt_z p 0 _ _ ⟨_,_,cx.B 0 _ rfl (by kernel_rfl) (by kernel_rfl),hp0⟩) ?_
  refine okv ?_
  exact ok_nil
 obtain ⟨hS,hG⟩:=SymF.fg hS hF
 clear hF
 refine wp_ret ?_
 exact sym_end hS hK (.int .i64 r) [] [] (by kernel_rfl) (by kernel_rfl) ⟨rfl,hS.fr⟩
theorem zover (w:World) (p:Nat) (a1 a2:Option Addr) (n1 n2 c1 c2 x y v u:Nat) (hR:Rz w p 0) (h1:Num w a1 n1 x) (h2:Num w a2 n2 y) (H:Hid (WDiv p x y v u))  :
  Calls Tryz.prog 71 #[.pointer (some ⟨p,0,none⟩),.agg #[.slice a1 n1 c1],.agg #[.slice a2 n2 c2]] w fun en w'=>(∃ A N C,en = .returned (.agg #[.slice A N C])∧Mine w' w.heap.size A N C v)∧Below w.heap.size w w':=by
 obtain ⟨cs9,t9_,hp,hp0⟩:=hR
 refine calls_sym Tryz.func71 rfl (by kernel_rfl) fun T hK=>?_
 replace hK:Kn T _ [(0,.pointer (some ⟨p,0,none⟩)),(1,.agg #[.slice a1 n1 c1]),(2,.agg #[.slice a2 n2 c2])]:=hK
 have hS:=Fb.other hp
 have hG:GsAt [gN a1 n1 x,gN a2 n2 y] w:=⟨h1,h2,trivial⟩
 refine wq hS hG hK (fun p1=>[.n 4 #[.slice a1 n1 c1] 26,.n 5 #[.slice a2 n2 c2] 26,.n 6 #[.slice none 0 0] 26]) (fun p1=>[(0,.pointer (some ⟨p,0,none⟩)),(4,pT (p1 0).N 0),(5,pT (p1 1).N 0),(6,pT (p1 2).N 0)]) (fun p1=>?_) (fun p1 W1 T hF hK=>?_)
 ·iterate 3 refine okn ?_
  exact ok_nil
 replace hS:=SymF.fc hS hF [0,1000,1001,1002] [⟨p,cs9,t9_,false⟩,⟨(p1 0).N,#[.slice a1 n1 c1],26,true⟩,⟨(p1 1).N,#[.slice a2 n2 c2],26,true⟩,⟨(p1 2).N,#[.slice none 0 0],26,true⟩]
 replace hG:=hF.gx
 clear hF
 have z1:=hS.fr.size
 refine wq hS hG hK (fun p2=>[.v 10 (.pointer (some ⟨p,0,none⟩)),.l 11 (.agg #[.slice a1 n1 c1]) 1 0,.l 12 (.agg #[.slice a2 n2 c2]) 2 0,.c (some 13) (cH W1.heap.size v u fun x9 y9=>.tuple #[.agg #[x9],.agg #[y9]]),.v 9 (.tuple #[.agg #[.slice (p2 3).A (p2 3).N (p2 3).C],.agg #[.slice (p2 3).A' (p2 3).N' (p2 3).C']]),.v 14 (.agg #[.slice (p2 3).A (p2 3).N (p2 3).C]),.v 15 (.agg #[.slice (p2 3).A' (p2 3).N' (p2 3).C']),.n 7 #[.slice none 0 0] 26,.n 8 #[.slice none 0 0] 26,.p 1007 0 [.slice (p2 3).A (p2 3).N (p2 3).C],.p 1008 0 [.slice (p2 3).A' (p2 3).N' (p2 3).C']]) (fun p2=>[(6,pT (p1 2).N 0),(7,pT (p2 7).N 0)]) (fun p2=>?_) (fun p2 W2 T hF hK=>?_)
 ·refine okv ?_
  iterate 2 refine okl ?_
  refine okc (fun W cx=>as_h cx.hb (unhide H _ _ _ c1 _ _ c2 ⟨_,_,cx.B 0 _ rfl (by kernel_rfl) (by kernel_rfl),hp0⟩ (cx.G.1) (cx.G.2.1))) ?_
  iterate 3 refine okv ?_
  iterate 2 refine okn ?_
  iterate 2 refine okp ?_
  exact ok_nil
 replace hS:=SymF.fc hS hF [0,3,1007] [⟨p,cs9,t9_,false⟩,⟨(p1 2).N,#[.slice none 0 0],26,true⟩,⟨(p2 7).N,#[.slice (p2 3).A (p2 3).N (p2 3).C],26,true⟩]
 replace hG:GsAt (gM W1.heap.size (p2 3).A (p2 3).N (p2 3).C v :: gM W1.heap.size (p2 3).A' (p2 3).N' (p2 3).C' u :: _) W2:=⟨And.left (hF.fx 3),And.right (hF.fx 3),hF.gx⟩
 clear hF
 refine wq hS hG hK (fun p3=>[.l 16 (.agg #[.slice (p2 3).A (p2 3).N (p2 3).C]) 2 0,.p 1 0 [.slice (p2 3).A (p2 3).N (p2 3).C]]) (fun p3=>[(6,pT (p1 2).N 0)]) (fun p3=>?_) (fun p3 W3 T hF hK=>?_)
 ·refine okl ?_
  refine okp ?_
  exact ok_nil
 replace hS:=SymF.fc hS hF [0,1] [⟨p,cs9,t9_,false⟩,⟨(p1 2).N,#[.slice (p2 3).A (p2 3).N (p2 3).C],26,true⟩]
 replace hG:=hF.gx
 clear hF
 refine wp_ret ?_
 exact sym_end hS hK (.agg #[.slice (p2 3).A (p2 3).N (p2 3).C]) [(1,0,1)] [.slice (p2 3).A (p2 3).N (p2 3).C] (by kernel_rfl) (by kernel_rfl) ⟨⟨_,_,_,rfl,Mine.mono hG.1 z1⟩,hS.fr⟩
theorem zmo (w:World) (p:Nat) (a1 a2 a3:Option Addr) (n1 n2 n3 c1 c2 c3 x y z h l t q r u s:Nat) (hR:Rz w p 0) (h1:Num w a1 n1 x) (h2:Num w a2 n2 y) (h3:Num w a3 n3 z) (H1:Hid (WDiv p x z h l)) (H2:Hid (WTwo 89 p l y t)) (H3:Hid (WDiv p t z q r)) (H4:Hid (WTwo 89 p h y u)) (H5:Hid (WTwo 114 p u q s))  :
  Calls Tryz.prog 131 #[.pointer (some ⟨p,0,none⟩),.agg #[.slice a1 n1 c1],.agg #[.slice a2 n2 c2],.agg #[.slice a3 n3 c3]] w fun en w'=>(∃ A N C A' N' C',en = .returned (.tuple #[.agg #[.slice A N C],.agg #[.slice A' N' C']])∧Mine w' w.heap.size A N C s∧Mine w' w.heap.size A' N' C' r)∧Below w.heap.size w w':=by
 obtain ⟨cs9,t9_,hp,hp0⟩:=hR
 refine calls_sym Tryz.func131 rfl (by kernel_rfl) fun T hK=>?_
 replace hK:Kn T _ [(0,.pointer (some ⟨p,0,none⟩)),(1,.agg #[.slice a1 n1 c1]),(2,.agg #[.slice a2 n2 c2]),(3,.agg #[.slice a3 n3 c3])]:=hK
 have hS:=Fb.other hp
 have hG:GsAt [gN a1 n1 x,gN a2 n2 y,gN a3 n3 z] w:=⟨h1,h2,h3,trivial⟩
 refine wq hS hG hK (fun p1=>[.n 5 #[.slice a1 n1 c1] 26,.n 6 #[.slice a2 n2 c2] 26,.n 7 #[.slice a3 n3 c3] 26,.n 8 #[.slice none 0 0] 26,.n 9 #[.slice none 0 0] 26]) (fun p1=>[(0,.pointer (some ⟨p,0,none⟩)),(5,pT (p1 0).N 0),(6,pT (p1 1).N 0),(7,pT (p1 2).N 0),(8,pT (p1 3).N 0),(9,pT (p1 4).N 0)]) (fun p1=>?_) (fun p1 W1 T hF hK=>?_)
 ·iterate 5 refine okn ?_
  exact ok_nil
 replace hS:=SymF.fc hS hF [0,1000,1001,1002,1003,1004] [⟨p,cs9,t9_,false⟩,⟨(p1 0).N,#[.slice a1 n1 c1],26,true⟩,⟨(p1 1).N,#[.slice a2 n2 c2],26,true⟩,⟨(p1 2).N,#[.slice a3 n3 c3],26,true⟩,⟨(p1 3).N,#[.slice none 0 0],26,true⟩,⟨(p1 4).N,#[.slice none 0 0],26,true⟩]
 replace hG:=hF.gx
 clear hF
 refine wq hS hG hK (fun p2=>[.v 13 (.pointer (some ⟨p,0,none⟩)),.l 14 (.agg #[.slice a1 n1 c1]) 1 0,.l 15 (.agg #[.slice a3 n3 c3]) 3 0,.c (some 16) (cH W1.heap.size h l fun x9 y9=>.tuple #[.agg #[x9],.agg #[y9]]),.v 12 (.tuple #[.agg #[.slice (p2 3).A (p2 3).N (p2 3).C],.agg #[.slice (p2 3).A' (p2 3).N' (p2 3).C']]),.v 17 (.agg #[.slice (p2 3).A (p2 3).N (p2 3).C]),.v 18 (.agg #[.slice (p2 3).A' (p2 3).N' (p2 3).C']),.n 10 #[.slice none 0 0] 26,.n 11 #[.slice none 0 0] 26,.p 1007 0 [.slice (p2 3).A (p2 3).N (p2 3).C],.p 1008 0 [.slice (p2 3).A' (p2 3).N' (p2 3).C']]) (fun p2=>[(0,.pointer (some ⟨p,0,none⟩)),(6,pT (p1 1).N 0),(7,pT (p1 2).N 0),(8,pT (p1 3).N 0),(9,pT (p1 4).N 0),(10,pT (p2 7).N 0),(11,pT (p2 8).N 0)]) (fun p2=>?_) (fun p2 W2 T hF hK=>?_)
 ·refine okv ?_
  iterate 2 refine okl ?_
  refine okc (fun W cx=>as_h cx.hb (unhide H1 _ _ _ c1 _ _ c3 ⟨_,_,cx.B 0 _ rfl (by kernel_rfl) (by kernel_rfl),hp0⟩ (cx.G.1) (cx.G.2.2.1))) ?_
  iterate 3 refine okv ?_
  iterate 2 refine okn ?_
  iterate 2 refine okp ?_
  exact ok_nil
 replace hS:=SymF.fc hS hF [0,2,3,4,5,1007,1008] [⟨p,cs9,t9_,false⟩,⟨(p1 1).N,#[.slice a2 n2 c2],26,true⟩,⟨(p1 2).N,#[.slice a3 n3 c3],26,true⟩,⟨(p1 3).N,#[.slice none 0 0],26,true⟩,⟨(p1 4).N,#[.slice none 0 0],26,true⟩,⟨(p2 7).N,#[.slice (p2 3).A (p2 3).N (p2 3).C],26,true⟩,⟨(p2 8).N,#[.slice (p2 3).A' (p2 3).N' (p2 3).C'],26,true⟩]
 replace hG:GsAt (gM W1.heap.size (p2 3).A (p2 3).N (p2 3).C h :: gM W1.heap.size (p2 3).A' (p2 3).N' (p2 3).C' l :: _) W2:=⟨And.left (hF.fx 3),And.right (hF.fx 3),hF.gx⟩
 clear hF
 have z2:=hS.fr.size
 refine wq hS hG hK (fun p3=>[.v 20 (.pointer (some ⟨p,0,none⟩)),.v 21 (.pointer (some ⟨p,0,none⟩)),.l 22 (.agg #[.slice (p2 3).A' (p2 3).N' (p2 3).C']) 6 0,.l 23 (.agg #[.slice a2 n2 c2]) 1 0,.c (some 24) (cN W2.heap.size t),.l 25 (.agg #[.slice a3 n3 c3]) 2 0,.c (some 26) (cH W2.heap.size q r fun x9 y9=>.tuple #[.agg #[x9],.agg #[y9]]),.v 19 (.tuple #[.agg #[.slice (p3 6).A (p3 6).N (p3 6).C],.agg #[.slice (p3 6).A' (p3 6).N' (p3 6).C']]),.v 27 (.agg #[.slice (p3 6).A (p3 6).N (p3 6).C]),.v 28 (.agg #[.slice (p3 6).A' (p3 6).N' (p3 6).C']),.p 3 0 [.slice (p3 6).A (p3 6).N (p3 6).C],.p 4 0 [.slice (p3 6).A' (p3 6).N' (p3 6).C']]) (fun p3=>[(0,.pointer (some ⟨p,0,none⟩)),(6,pT (p1 1).N 0),(8,pT (p1 3).N 0),(9,pT (p1 4).N 0),(10,pT (p2 7).N 0)]) (fun p3=>?_) (fun p3 W3 T hF hK=>?_)
 ·iterate 2 refine okv ?_
  iterate 2 refine okl ?_
  refine okc (fun W cx=>as_n cx.hb (unhide H2 _ _ _ (p2 3).C' _ _ c2 ⟨_,_,cx.B 0 _ rfl (by kernel_rfl) (by kernel_rfl),hp0⟩ (Mine.num cx.G.2.1) (cx.G.2.2.2.1))) ?_
  refine okl ?_
  refine okc (fun W cx=>as_h cx.hb (unhide H3 _ _ _ (p3 4).C _ _ c3 ⟨_,_,cx.B 0 _ rfl (by kernel_rfl) (by kernel_rfl),hp0⟩ (Mine.num (cx.F 4 (by kernel_rfl))) (cx.G.2.2.2.2.1))) ?_
  iterate 3 refine okv ?_
  iterate 2 refine okp ?_
  exact ok_nil
 replace hS:=SymF.fc hS hF [0,1,3,4,5] [⟨p,cs9,t9_,false⟩,⟨(p1 1).N,#[.slice a2 n2 c2],26,true⟩,⟨(p1 3).N,#[.slice (p3 6).A (p3 6).N (p3 6).C],26,true⟩,⟨(p1 4).N,#[.slice (p3 6).A' (p3 6).N' (p3 6).C'],26,true⟩,⟨(p2 7).N,#[.slice (p2 3).A (p2 3).N (p2 3).C],26,true⟩]
 replace hG:GsAt (gM W2.heap.size (p3 4).A (p3 4).N (p3 4).C t :: gM W2.heap.size (p3 6).A (p3 6).N (p3 6).C q :: gM W2.heap.size (p3 6).A' (p3 6).N' (p3 6).C' r :: _) W3:=⟨hF.fx 4,And.left (hF.fx 6),And.right (hF.fx 6),hF.gx⟩
 clear hF
 have z3:=hS.fr.size
 refine wq hS hG hK (fun p4=>[.v 29 (.pointer (some ⟨p,0,none⟩)),.v 30 (.pointer (some ⟨p,0,none⟩)),.l 31 (.agg #[.slice (p2 3).A (p2 3).N (p2 3).C]) 4 0,.l 32 (.agg #[.slice a2 n2 c2]) 1 0,.c (some 33) (cN W3.heap.size u),.l 34 (.agg #[.slice (p3 6).A (p3 6).N (p3 6).C]) 2 0,.c (some 35) (cN W3.heap.size s),.l 36 (.agg #[.slice (p3 6).A' (p3 6).N' (p3 6).C']) 3 0,.p 2 0 [.slice (p4 6).A (p4 6).N (p4 6).C],.p 3 0 [.slice (p3 6).A' (p3 6).N' (p3 6).C']]) (fun p4=>[(8,pT (p1 3).N 0),(9,pT (p1 4).N 0)]) (fun p4=>?_) (fun p4 W4 T hF hK=>?_)
 ·iterate 2 refine okv ?_
  iterate 2 refine okl ?_
  refine okc (fun W cx=>as_n cx.hb (unhide H4 _ _ _ (p2 3).C _ _ c2 ⟨_,_,cx.B 0 _ rfl (by kernel_rfl) (by kernel_rfl),hp0⟩ (Mine.num cx.G.2.2.2.1) (cx.G.2.2.2.2.2.2.1))) ?_
  refine okl ?_
  refine okc (fun W cx=>as_n cx.hb (unhide H5 _ _ _ (p4 4).C _ _ (p3 6).C ⟨_,_,cx.B 0 _ rfl (by kernel_rfl) (by kernel_rfl),hp0⟩ (Mine.num (cx.F 4 (by kernel_rfl))) (Mine.num cx.G.2.1))) ?_
  refine okl ?_
  iterate 2 refine okp ?_
  exact ok_nil
 replace hS:=SymF.fc hS hF [0,2,3] [⟨p,cs9,t9_,false⟩,⟨(p1 3).N,#[.slice (p4 6).A (p4 6).N (p4 6).C],26,true⟩,⟨(p1 4).N,#[.slice (p3 6).A' (p3 6).N' (p3 6).C'],26,true⟩]
 replace hG:GsAt (gM W3.heap.size (p4 4).A (p4 4).N (p4 4).C u :: gM W3.heap.size (p4 6).A (p4 6).N (p4 6).C s :: _) W4:=⟨hF.fx 4,hF.fx 6,hF.gx⟩
 clear hF
 refine wp_ret ?_
 exact sym_end hS hK (.tuple #[.agg #[.slice (p4 6).A (p4 6).N (p4 6).C],.agg #[.slice (p3 6).A' (p3 6).N' (p3 6).C']]) [(1,0,1),(2,0,1)] [.slice (p4 6).A (p4 6).N (p4 6).C,.slice (p3 6).A' (p3 6).N' (p3 6).C'] (by kernel_rfl) (by kernel_rfl) ⟨⟨_,_,_,_,_,_,rfl,Mine.mono hG.2.1 z3,Mine.mono hG.2.2.2.2.1 z2⟩,hS.fr⟩
theorem zdist_lt (w:World) (p:Nat) (a1 a2:Option Addr) (n1 n2 c1 c2 x y v:Nat) (r:Int) (hR:Rz w p 0) (h1:Num w a1 n1 x) (h2:Num w a2 n2 y) (H1:Hid (WCmp p x y r)) (hr:r < 0) (H2:Hid (WTwo 116 p y x v))  :
  Calls Tryz.prog 132 #[.pointer (some ⟨p,0,none⟩),.agg #[.slice a1 n1 c1],.agg #[.slice a2 n2 c2]] w fun en w'=>(∃ A N C,en = .returned (.agg #[.slice A N C])∧Mine w' w.heap.size A N C v)∧Below w.heap.size w w':=by
 obtain ⟨cs9,t9_,hp,hp0⟩:=hR
 refine calls_sym Tryz.func132 rfl (by kernel_rfl) fun T hK=>?_
 replace hK:Kn T _ [(0,.pointer (some ⟨p,0,none⟩)),(1,.agg #[.slice a1 n1 c1]),(2,.agg #[.slice a2 n2 c2])]:=hK
 have hS:=Fb.other hp
 have hG:GsAt [gN a1 n1 x,gN a2 n2 y] w:=⟨h1,h2,trivial⟩
 refine wq hS hG hK (fun p1=>[.n 4 #[.slice a1 n1 c1] 26,.n 5 #[.slice a2 n2 c2] 26,.n 6 #[.slice none 0 0] 26]) (fun p1=>[(0,.pointer (some ⟨p,0,none⟩)),(4,pT (p1 0).N 0),(5,pT (p1 1).N 0),(6,pT (p1 2).N 0)]) (fun p1=>?_) (fun p1 W1 T hF hK=>?_)
 ·iterate 3 refine okn ?_
  exact ok_nil
 replace hS:=SymF.fc hS hF [0,1000,1001,1002] [⟨p,cs9,t9_,false⟩,⟨(p1 0).N,#[.slice a1 n1 c1],26,true⟩,⟨(p1 1).N,#[.slice a2 n2 c2],26,true⟩,⟨(p1 2).N,#[.slice none 0 0],26,true⟩]
 replace hG:=hF.gx
 clear hF
 refine wp_seq ?_
 refine wq hS hG hK (fun p2=>[.v 7 (.pointer (some ⟨p,0,none⟩)),.l 8 (.agg #[.slice a1 n1 c1]) 1 0,.l 9 (.agg #[.slice a2 n2 c2]) 2 0,.c (some 10) (cV (.int .i64 r)),.v 11 (.bool true)]) (fun p2=>[(0,.pointer (some ⟨p,0,none⟩)),(4,pT (p1 0).N 0),(5,pT (p1 1).N 0),(6,pT (p1 2).N 0),(11,.bool true)]) (fun p2=>?_) (fun p2 W2 T hF hK=>?_)
 ·refine okv ?_
  iterate 2 refine okl ?_
  refine okc (fun W cx=>as_v (unhide H1 _ _ _ c1 _ _ c2 ⟨_,_,cx.B 0 _ rfl (by kernel_rfl) (by kernel_rfl),hp0⟩ (cx.G.1) (cx.G.2.1))) ?_
  refine okvb (decide_eq_true (show r < 0 by omega)) ?_
  exact ok_nil
 obtain ⟨hS,hG⟩:=SymF.fg hS hF
 clear hF
 refine wp_cond_true (hK.ew 11) ?_
 refine wg hS hG hK (fun p3=>[.l 12 (.agg #[.slice a2 n2 c2]) 2 0,.l 13 (.agg #[.slice a1 n1 c1]) 1 0,.p 1 0 [.slice a2 n2 c2],.p 2 0 [.slice a1 n1 c1]]) (fun p3=>[(0,.pointer (some ⟨p,0,none⟩)),(4,pT (p1 0).N 0),(5,pT (p1 1).N 0),(6,pT (p1 2).N 0)]) (fun p3=>?_) (fun p3 W3 T hF hK=>?_)
 ·iterate 2 refine okl ?_
  iterate 2 refine okp ?_
  exact ok_nil
 replace hS:=SymF.fc hS hF [0,1,2,3] [⟨p,cs9,t9_,false⟩,⟨(p1 0).N,#[.slice a2 n2 c2],26,true⟩,⟨(p1 1).N,#[.slice a1 n1 c1],26,true⟩,⟨(p1 2).N,#[.slice none 0 0],26,true⟩]
 replace hG:=hF.gx
 clear hF
 have z3:=hS.fr.size
 refine then_n ?_
 refine wq hS hG hK (fun p4=>[.v 14 (.pointer (some ⟨p,0,none⟩)),.l 15 (.agg #[.slice a2 n2 c2]) 1 0,.l 16 (.agg #[.slice a1 n1 c1]) 2 0,.c (some 17) (cN W3.heap.size v),.p 3 0 [.slice (p4 3).A (p4 3).N (p4 3).C]]) (fun p4=>[(6,pT (p1 2).N 0)]) (fun p4=>?_) (fun p4 W4 T hF hK=>?_)
 ·refine okv ?_
  iterate 2 refine okl ?_
  refine okc (fun W cx=>as_n cx.hb (unhide H2 _ _ _ c2 _ _ c1 ⟨_,_,cx.B 0 _ rfl (by kernel_rfl) (by kernel_rfl),hp0⟩ (cx.G.2.1) (cx.G.1))) ?_
  refine okp ?_
  exact ok_nil
 replace hS:=SymF.fc hS hF [0,3] [⟨p,cs9,t9_,false⟩,⟨(p1 2).N,#[.slice (p4 3).A (p4 3).N (p4 3).C],26,true⟩]
 replace hG:GsAt (gM W3.heap.size (p4 3).A (p4 3).N (p4 3).C v :: _) W4:=⟨hF.fx 3,hF.gx⟩
 clear hF
 refine wp_ret ?_
 exact sym_end hS hK (.agg #[.slice (p4 3).A (p4 3).N (p4 3).C]) [(1,0,1)] [.slice (p4 3).A (p4 3).N (p4 3).C] (by kernel_rfl) (by kernel_rfl) ⟨⟨_,_,_,rfl,Mine.mono hG.1 z3⟩,hS.fr⟩
theorem zdist_ge (w:World) (p:Nat) (a1 a2:Option Addr) (n1 n2 c1 c2 x y v:Nat) (r:Int) (hR:Rz w p 0) (h1:Num w a1 n1 x) (h2:Num w a2 n2 y) (H1:Hid (WCmp p x y r)) (hr:0≤r) (H2:Hid (WTwo 116 p x y v))  :
  Calls Tryz.prog 132 #[.pointer (some ⟨p,0,none⟩),.agg #[.slice a1 n1 c1],.agg #[.slice a2 n2 c2]] w fun en w'=>(∃ A N C,en = .returned (.agg #[.slice A N C])∧Mine w' w.heap.size A N C v)∧Below w.heap.size w w':=by
 obtain ⟨cs9,t9_,hp,hp0⟩:=hR
 refine calls_sym Tryz.func132 rfl (by kernel_rfl) fun T hK=>?_
 replace hK:Kn T _ [(0,.pointer (some ⟨p,0,none⟩)),(1,.agg #[.slice a1 n1 c1]),(2,.agg #[.slice a2 n2 c2])]:=hK
 have hS:=Fb.other hp
 have hG:GsAt [gN a1 n1 x,gN a2 n2 y] w:=⟨h1,h2,trivial⟩
 refine wq hS hG hK (fun p1=>[.n 4 #[.slice a1 n1 c1] 26,.n 5 #[.slice a2 n2 c2] 26,.n 6 #[.slice none 0 0] 26]) (fun p1=>[(0,.pointer (some ⟨p,0,none⟩)),(4,pT (p1 0).N 0),(5,pT (p1 1).N 0),(6,pT (p1 2).N 0)]) (fun p1=>?_) (fun p1 W1 T hF hK=>?_)
 ·iterate 3 refine okn ?_
  exact ok_nil
 replace hS:=SymF.fc hS hF [0,1000,1001,1002] [⟨p,cs9,t9_,false⟩,⟨(p1 0).N,#[.slice a1 n1 c1],26,true⟩,⟨(p1 1).N,#[.slice a2 n2 c2],26,true⟩,⟨(p1 2).N,#[.slice none 0 0],26,true⟩]
 replace hG:=hF.gx
 clear hF
 refine wp_seq ?_
 refine wq hS hG hK (fun p2=>[.v 7 (.pointer (some ⟨p,0,none⟩)),.l 8 (.agg #[.slice a1 n1 c1]) 1 0,.l 9 (.agg #[.slice a2 n2 c2]) 2 0,.c (some 10) (cV (.int .i64 r)),.v 11 (.bool false)]) (fun p2=>[(0,.pointer (some ⟨p,0,none⟩)),(4,pT (p1 0).N 0),(5,pT (p1 1).N 0),(6,pT (p1 2).N 0),(11,.bool false)]) (fun p2=>?_) (fun p2 W2 T hF hK=>?_)
 ·refine okv ?_
  iterate 2 refine okl ?_
  refine okc (fun W cx=>as_v (unhide H1 _ _ _ c1 _ _ c2 ⟨_,_,cx.B 0 _ rfl (by kernel_rfl) (by kernel_rfl),hp0⟩ (cx.G.1) (cx.G.2.1))) ?_
  refine okvb (decide_eq_false (show ¬ r < 0 by omega)) ?_
  exact ok_nil
 obtain ⟨hS,hG⟩:=SymF.fg hS hF
 clear hF
 have z2:=hS.fr.size
 refine wp_cond_false (hK.ew 11) (wp_skip (then_n ?_))
 refine wq hS hG hK (fun p3=>[.v 14 (.pointer (some ⟨p,0,none⟩)),.l 15 (.agg #[.slice a1 n1 c1]) 1 0,.l 16 (.agg #[.slice a2 n2 c2]) 2 0,.c (some 17) (cN W2.heap.size v),.p 3 0 [.slice (p3 3).A (p3 3).N (p3 3).C]]) (fun p3=>[(4,pT (p1 0).N 0),(5,pT (p1 1).N 0),(6,pT (p1 2).N 0)]) (fun p3=>?_) (fun p3 W3 T hF hK=>?_)
 ·refine okv ?_
  iterate 2 refine okl ?_
  refine okc (fun W cx=>as_n cx.hb (unhide H2 _ _ _ c1 _ _ c2 ⟨_,_,cx.B 0 _ rfl (by kernel_rfl) (by kernel_rfl),hp0⟩ (cx.G.1) (cx.G.2.1))) ?_
  refine okp ?_
  exact ok_nil
 replace hS:=SymF.fc hS hF [0,1,2,3] [⟨p,cs9,t9_,false⟩,⟨(p1 0).N,#[.slice a1 n1 c1],26,true⟩,⟨(p1 1).N,#[.slice a2 n2 c2],26,true⟩,⟨(p1 2).N,#[.slice (p3 3).A (p3 3).N (p3 3).C],26,true⟩]
 replace hG:GsAt (gM W2.heap.size (p3 3).A (p3 3).N (p3 3).C v :: _) W3:=⟨hF.fx 3,hF.gx⟩
 clear hF
 refine wp_ret ?_
 exact sym_end hS hK (.agg #[.slice (p3 3).A (p3 3).N (p3 3).C]) [(3,0,1)] [.slice (p3 3).A (p3 3).N (p3 3).C] (by kernel_rfl) (by kernel_rfl) ⟨⟨_,_,_,rfl,Mine.mono hG.1 z2⟩,hS.fr⟩
end Go.Proofs.YtpmmapoabbpaiaaGreat
