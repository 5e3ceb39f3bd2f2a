/- Of what DigitsSureRow stands on: ExBits ExCmp TnRun0 RzW RzSpl RzTog RzSub RzAny RyMake RyCmp. -/
import Derived.Test.YteafdlblemdclaaGreatDoorPar
import Derived.Test.YteafdlblemdclaaGreatDoorPab
import Derived.Test.YteafdlblemdclaaGreatDoorPaj
import Derived.Test.YteafdlblemdclaaGreatDoorPad
import Derived.Test.YteafdlblemdclaaGreatDoorPam
import Derived.Test.YteafdlblemdclaaGreatDoorProg
import Derived.WalkKit
import Derived.WalkSpells
import Derived.WalkLawsBesides
import Derived.Test.YteafdlblemdclaaGreatDoorPac
import Derived.Test.YteafdlblemdclaaGreatDoorPak
import Derived.Deep.LoopGhost
import Derived.BigQuiet
import Derived.Test.YteafdlblemdclaaGreatDoorPax
import Derived.Deep.RegionWith
import Derived.Test.YteafdlblemdclaaGreatDoorPau
import Derived.Test.YteafdlblemdclaaGreatDoorPat
import Derived.Test.YteafdlblemdclaaGreatDoorPav
import Derived.Test.YteafdlblemdclaaGreatDoorPal
namespace Go.Proofs.YteafdlblemdclaaGreatDoor
open Go.RowKit
set_option maxHeartbeats 2000000
set_option maxRecDepth 20000
theorem bits_k (a:Option Addr) (n cap m k:Nat) (w:World) (h:Num w a n m) (hk:Bl m k) :
  Calls Tryz.prog 100 #[.agg #[.slice a n cap]] w fun e w'=>e = .returned (.tuple #[.int .i64 (k:Int),.int .i64 0])∧Below w.heap.size w w':=by
 refine (bits_any a n cap m w h).mono ?_
 rintro e w' ⟨⟨j,rfl,hj,_⟩,hb⟩
 obtain rfl:=hj.uniq hk
 exact ⟨rfl,hb⟩
theorem dcheck_nought (a:Option Addr) (cap:Nat) (w:World) (h:Num w a 0 0) :
  Calls Tryz.prog 30 #[.agg #[.bool false,.slice a 0 cap,.int .i64 0]] w fun e w'=>e = .returned (.int .i64 0)∧Below w.heap.size w w':=by
 have:=dcheck_nil false a cap 0 w h
 simpa using this
theorem B_le {E F B:Nat} (h:Fo E F) (HB:Hid (B = 2 ^ (E - 1) - 1)):B≤1023:=by
 have h1:=pow_bound (show E - 1≤10 by have:=h.e11; omega)
 rw [unhide HB]; omega
theorem B_two {E F B:Nat} (h:Fo E F) (HB:Hid (B = 2 ^ (E - 1) - 1)):2 ^ E = 2 * B+2∧1≤B:=by
 have h2:=h.e2
 obtain ⟨k,rfl⟩:∃ k,E = k+2:=⟨E - 2,by omega⟩
 have:=unhide HB
 rw [show k+2 - 1 = k+1 from by omega] at this
 have h3:=pow_pos2 k
 rw [Nat.pow_succ] at this ⊢
 rw [Nat.pow_succ]
 omega
theorem Fs.three (w:World) (cs:Array Value) (t:TypeId) (ds:Array Value) (u:TypeId) (es:Array Value) (v:TypeId) :
  Fs w (((w.alloc (.cells cs t)).alloc (.cells ds u)).alloc (.cells es v)) [⟨w.heap.size,cs,t⟩,⟨w.heap.size+1,ds,u⟩,⟨w.heap.size+2,es,v⟩]:=by
 have h:=(((Fs.begin w).alloc cs t).alloc ds u).alloc es v
 simp only [World.size_alloc,Nat.add_assoc] at h
 exact h.sub (by simp)
theorem setCell_still {W:World} {b j:Nat} {cs:Array Value} {t:TypeId} {u:Value} (hb:W.heap[b]? = some (.cells cs t (0,0))) (hc:cs[j]? = some u):W.setCell ⟨b,j,none⟩ u = W:=by
 have he:(W.setCell ⟨b,j,none⟩ u).heap = W.heap:=by
  apply Array.ext_getElem?
  intro k
  by_cases hk:k = b
  ·subst hk
   rw [heap_setCell_same W k j _ _ _ hb,hb]
   congr 2
   apply Array.ext_getElem?
   intro i
   by_cases hi:i = j
   ·subst hi
    obtain ⟨hlt,_⟩:=Array.getElem?_eq_some_iff.1 hc
    rw [hc]; simp [hlt]
   ·rw [Array.getElem?_setIfInBounds_ne (Ne.symm hi)]
  ·rw [heap_setCell_other W _ k u hk]
 have:W.setCell ⟨b,j,none⟩ u = { W with heap:=(W.setCell ⟨b,j,none⟩ u).heap }:=rfl
 rw [this,he]
structure Dy (w:World) (s:Bool) (a:Option Addr) (n m:Nat) (x:Int):Prop where
 num:Num w a n m
 ok:(m = 0∧s = false∧x = 0)∨(m % 2 = 1∧-1073741824≤x∧x≤1073741824)
theorem Dy.kept {w w':World} {s:Bool} {a:Option Addr} {n m:Nat} {x:Int} (h:Dy w s a n m x) (hb:Below w.heap.size w w'):Dy w' s a n m x:=⟨h.num.kept hb,h.ok⟩
theorem Dy.range {w:World} {s:Bool} {a:Option Addr} {n m:Nat} {x:Int} (h:Dy w s a n m x):-1073741824≤x∧x≤1073741824:=by
 rcases h.ok with ⟨_,_,rfl⟩|⟨_,h1,h2⟩
 ·omega
 ·exact ⟨h1,h2⟩
theorem dcheck_dy (s:Bool) (a:Option Addr) (n cap m:Nat) (x:Int) (w:World) (h:Dy w s a n m x) :
  Calls Tryz.prog 30 #[.agg #[.bool s,.slice a n cap,.int .i64 x]] w fun e w'=>e = .returned (.int .i64 0)∧Below w.heap.size w w':=by
 rcases h.ok with ⟨rfl,rfl,rfl⟩|⟨h1,h2⟩
 ·have hn:=h.num
  obtain rfl:=hn.zero.2 rfl
  exact dcheck_nought a cap w hn
 ·exact dcheck_ok s a n cap m x w h.num (by have:=h.num.zero; omega) h1 h2
theorem setCell_stillz {W:World} {b j:Nat} {cs:Array Value} {t:TypeId} {u:Value} (hb:W.heap[b]? = some (.cells cs t (0,0))) (hc:cs[j]? = some u):W.setCell ⟨b,j,none⟩ u = W:=by
 have he:(W.setCell ⟨b,j,none⟩ u).heap = W.heap:=by
  apply Array.ext_getElem?
  intro k
  by_cases hk:k = b
  ·subst hk
   rw [heap_setCell_same W k j _ _ _ hb,hb]
   congr 2
   apply Array.ext_getElem?
   intro i
   by_cases hi:i = j
   ·subst hi
    obtain ⟨hlt,_⟩:=Array.getElem?_eq_some_iff.1 hc
    rw [hc]; simp [hlt]
   ·rw [Array.getElem?_setIfInBounds_ne (Ne.symm hi)]
  ·rw [heap_setCell_other W _ k u hk]
 have:W.setCell ⟨b,j,none⟩ u = { W with heap:=(W.setCell ⟨b,j,none⟩ u).heap }:=rfl
 rw [this,he]
def Rz (w:World) (p k:Nat):Prop:=∃ cs t,w.heap[p]? = some (.cells cs t (0,0))∧cs[k]? = some (.int .i64 0)
theorem Rz.kept {w w':World} {p k:Nat} (h:Rz w p k) (hb:Below w.heap.size w w'):Rz w' p k:=by
 obtain ⟨cs,t,h1,h2⟩:=h
 exact ⟨cs,t,by rw [hb.block _ (block_lt h1)]; exact h1,h2⟩
theorem Rz.cell {w:World} {p k:Nat} (h:Rz w p k):w.cell? ⟨p,k,none⟩ = some (.int .i64 0)∧w.frozen? ⟨p,k,none⟩ = false:=by
 obtain ⟨cs,t,h1,h2⟩:=h
 exact ⟨by rw [cell_of_row w p k _ _ _ h1]; exact h2,frozen_of_row w p k _ _ h1⟩
theorem Rz.still {w:World} {p k:Nat} (h:Rz w p k):w.setCell ⟨p,k,none⟩ (.int .i64 0) = w:=by
 obtain ⟨cs,t,h1,h2⟩:=h
 exact setCell_stillz h1 h2
theorem keep_z (p k:Nat) (w:World) (h:Rz w p k) :
  Calls Tryz.prog 59 #[.pointer (some ⟨p,k,none⟩),.int .i64 0] w fun en w'=>en = .returned (.tuple #[])∧Below w.heap.size w w':=by
 obtain ⟨h1,h2⟩:=h.cell
 have h3:=h.still
 go_enter Tryz.func59,Tryz.ntmps59
 go_wp2
 go_end0
 exact ⟨rfl,Below.refl _ _⟩
theorem runNat_z (p k:Nat) (a:Option Addr) (n cap:Nat) (w:World) (h:Rz w p k) :
  Calls Tryz.prog 33 #[.pointer (some ⟨p,k,none⟩),.agg #[.slice a n cap],.int .i64 0] w fun e w'=>e = .returned (.agg #[.slice a n cap])∧Below w.heap.size w w':=by
 have H:=hide h
 clear h
 go_enter Tryz.func33,Tryz.ntmps33
 go_wp2_with fail
 refine (keep_z p k _ ((unhide H).kept (Fs.two w _ _ _ _).fr)).mono ?_
 rintro e w1 ⟨rfl,hb1⟩
 have hS:=(Fs.two w _ _ _ _).kept hb1
 obtain ⟨⟨ya,-⟩,⟨yb,-⟩,-⟩:=hS.cells
 have fz0:=hS.frozen (b:=w.heap.size+1) (cs:=#[.slice none 0 0]) (t:=28) (by simp) 0
 go_wp2
 exact bodyPost_ret (v:=.agg #[.slice a n cap]) (by simp [results,Tryz.results33,go_sem,yb]) rfl ⟨rfl,(hS.fr.setCell (by simp <;> omega) _)⟩
theorem runInt_z (p k:Nat) (c:Int) (w:World) (h:Rz w p k) :
  Calls Tryz.prog 99 #[.pointer (some ⟨p,k,none⟩),.int .i64 c,.int .i64 0] w fun e w'=>e = .returned (.int .i64 c)∧Below w.heap.size w w':=by
 have H:=hide h
 clear h
 go_enter Tryz.func99,Tryz.ntmps99
 go_wp2_with fail
 refine (keep_z p k _ (unhide H)).mono ?_
 rintro e w1 ⟨rfl,hb1⟩
 have hS:=(Fs.begin w).kept hb1
 go_wp2
 go_ret
 exact ⟨rfl,hS.fr⟩
theorem runNats_z (p k:Nat) (a:Option Addr) (n cap:Nat) (a':Option Addr) (n' cap':Nat) (w:World) (h:Rz w p k) :
  Calls Tryz.prog 97 #[.pointer (some ⟨p,k,none⟩),.agg #[.slice a n cap],.agg #[.slice a' n' cap'],.int .i64 0] w fun e w'=>e = .returned (.tuple #[.agg #[.slice a n cap],.agg #[.slice a' n' cap']])∧Below w.heap.size w w':=by
 have H:=hide h
 clear h
 go_enter Tryz.func97,Tryz.ntmps97
 go_wp2_with fail
 have hS:=(Fs.three w #[.slice a n cap] 28 #[.slice a' n' cap'] 28 #[.slice none 0 0] 28).alloc #[.slice none 0 0] 28
 simp only [World.size_alloc] at hS
 refine (keep_z p k _ ((unhide H).kept hS.fr)).mono ?_
 rintro e w1 ⟨rfl,hb1⟩
 replace hS:=hS.kept hb1
 obtain ⟨⟨ya,-⟩,⟨yb,-⟩,⟨yc,-⟩,⟨yd,-⟩,-⟩:=hS.cells
 have fy0:=hS.frozen (b:=w.heap.size+2) (cs:=#[.slice none 0 0]) (t:=28) (by simp) 0
 have fz0:=hS.frozen (b:=w.heap.size+3) (cs:=#[.slice none 0 0]) (t:=28) (by simp) 0
 go_wp2
 go_region
 go_wp2
 exact bodyPost_ret (v:=.tuple #[.agg #[.slice a n cap],.agg #[.slice a' n' cap']]) (by simp [results,Tryz.results97,go_sem,ya,yd]) rfl ⟨rfl,((hS.fr.setCell (show w.heap.size≤w.heap.size+1+1 by omega) _).setCell (show w.heap.size≤w.heap.size+1+1+1 by omega) _).drew⟩
def WTwo (f:FuncId) (p x y v:Nat):Prop:=∀ (W:World) (a:Option Addr) (n c:Nat) (a':Option Addr) (n' c':Nat),Rz W p 0→Num W a n x→Num W a' n' y→Calls Tryz.prog f #[.pointer (some ⟨p,0,none⟩),.agg #[.slice a n c],.agg #[.slice a' n' c']] W fun en W'=>(∃ A N C,en = .returned (.agg #[.slice A N C])∧Mine W' W.heap.size A N C v)∧Below W.heap.size W W'
def WDiv (p x y q r:Nat):Prop:=∀ (W:World) (a:Option Addr) (n c:Nat) (a':Option Addr) (n' c':Nat),Rz W p 0→Num W a n x→Num W a' n' y→Calls Tryz.prog 107 #[.pointer (some ⟨p,0,none⟩),.agg #[.slice a n c],.agg #[.slice a' n' c']] W fun en W'=>(∃ A N C A' N' C',en = .returned (.tuple #[.agg #[.slice A N C],.agg #[.slice A' N' C']])∧Mine W' W.heap.size A N C q∧Mine W' W.heap.size A' N' C' r)∧Below W.heap.size W W'
def WCmp (p x y:Nat) (r:Int):Prop:=∀ (W:World) (a:Option Addr) (n c:Nat) (a':Option Addr) (n' c':Nat),Rz W p 0→Num W a n x→Num W a' n' y→Calls Tryz.prog 119 #[.pointer (some ⟨p,0,none⟩),.agg #[.slice a n c],.agg #[.slice a' n' c']] W fun en W'=>en = .returned (.int .i64 r)∧Below W.heap.size W W'
theorem zmul (w:World) (p:Nat) (a1 a2:Option Addr) (n1 n2 c1 c2 x y v:Nat) (hR:Rz w p 0) (h1:Num w a1 n1 x) (h2:Num w a2 n2 y) (H:Hid (∀ (W:World) (a:Option Addr) (n c:Nat) (a':Option Addr) (n' c':Nat),Num W a n x→Num W a' n' y→Calls Tryz.prog 34 #[.agg #[.slice a n c],.agg #[.slice a' n' c']] W fun en W'=>(∃ A N C,en = .returned (.tuple #[.agg #[.slice A N C],.int .i64 0])∧Mine W' W.heap.size A N C v)∧Below W.heap.size W W')) :
  Calls Tryz.prog 118 #[.pointer (some ⟨p,0,none⟩),.agg #[.slice a1 n1 c1],.agg #[.slice a2 n2 c2]] w fun en w'=>(∃ A N C,en = .returned (.agg #[.slice A N C])∧Mine w' w.heap.size A N C v)∧Below w.heap.size w w':=by
 obtain ⟨cs9,t9_,hp,hp0⟩:=hR
 refine calls_sym Tryz.func118 rfl (by kernel_rfl) fun T hK=>?_
 replace hK:Kn T _ [(0,.pointer (some ⟨p,0,none⟩)),(1,.agg #[.slice a1 n1 c1]),(2,.agg #[.slice a2 n2 c2])]:=hK
 have hS:=Fb.other hp
 have hG:GsAt [gN a1 n1 x,gN a2 n2 y] w:=⟨h1,h2,trivial⟩
 refine wq hS hG hK (fun p1=>[.n 4 #[.slice a1 n1 c1] 28,.n 5 #[.slice a2 n2 c2] 28,.n 6 #[.slice none 0 0] 28]) (fun p1=>[(0,.pointer (some ⟨p,0,none⟩)),(4,pT (p1 0).N 0),(5,pT (p1 1).N 0),(6,pT (p1 2).N 0)]) (fun p1=>?_) (fun p1 W1 T hF hK=>?_)
 ·iterate 3 refine okn ?_
  exact ok_nil
 replace hS:=SymF.fc hS hF [0,1000,1001,1002] [⟨p,cs9,t9_,false⟩,⟨(p1 0).N,#[.slice a1 n1 c1],28,true⟩,⟨(p1 1).N,#[.slice a2 n2 c2],28,true⟩,⟨(p1 2).N,#[.slice none 0 0],28,true⟩]
 replace hG:=hF.gx
 clear hF
 have z1:=hS.fr.size
 refine wq hS hG hK (fun p2=>[.v 7 (.pointer (some ⟨p,0,none⟩)),.v 8 (.pointer (some ⟨p,0,none⟩)),.v 9 (.pointer (some ⟨p,0,none⟩)),.l 10 (.agg #[.slice a1 n1 c1]) 1 0,.l 11 (.agg #[.slice a2 n2 c2]) 2 0,.c (some 12) (cO W1.heap.size v),.v 13 (.agg #[.slice (p2 5).A (p2 5).N (p2 5).C]),.v 14 (.int .i64 0),.u 15 (.agg #[.slice (p2 5).A (p2 5).N (p2 5).C]) (aG 1),.p 3 0 [.slice (p2 5).A (p2 5).N (p2 5).C]]) (fun p2=>[(6,pT (p1 2).N 0)]) (fun p2=>?_) (fun p2 W2 T hF hK=>?_)
 ·iterate 3 refine okv ?_
  iterate 2 refine okl ?_
  refine okc (fun W cx=>as_o cx.hb (unhide H _ _ _ c1 _ _ c2 (cx.G.1) (cx.G.2.1))) ?_
  iterate 2 refine okv ?_
  refine oku (fun W cx=>runNat_z p 0 _ _ _ _ ⟨_,_,cx.B 0 _ rfl (by kernel_rfl) (by kernel_rfl),hp0⟩) ?_
  refine okp ?_
  exact ok_nil
 replace hS:=SymF.fc hS hF [0,3] [⟨p,cs9,t9_,false⟩,⟨(p1 2).N,#[.slice (p2 5).A (p2 5).N (p2 5).C],28,true⟩]
 replace hG:GsAt (gM W1.heap.size (p2 5).A (p2 5).N (p2 5).C v :: _) W2:=⟨hF.fx 5,hF.gx⟩
 clear hF
 refine wp_ret ?_
 exact sym_end hS hK (.agg #[.slice (p2 5).A (p2 5).N (p2 5).C]) [(1,0,1)] [.slice (p2 5).A (p2 5).N (p2 5).C] (by kernel_rfl) (by kernel_rfl) ⟨⟨_,_,_,rfl,Mine.mono hG.1 z1⟩,hS.fr⟩
theorem zgcd (w:World) (p:Nat) (a1 a2:Option Addr) (n1 n2 c1 c2 x y v:Nat) (hR:Rz w p 0) (h1:Num w a1 n1 x) (h2:Num w a2 n2 y) (H:Hid (∀ (W:World) (a:Option Addr) (n c:Nat) (a':Option Addr) (n' c':Nat),Num W a n x→Num W a' n' y→Calls Tryz.prog 106 #[.agg #[.slice a n c],.agg #[.slice a' n' c']] W fun en W'=>(∃ A N C,en = .returned (.tuple #[.agg #[.slice A N C],.int .i64 0])∧Mine W' W.heap.size A N C v)∧Below W.heap.size W W')) :
  Calls Tryz.prog 73 #[.pointer (some ⟨p,0,none⟩),.agg #[.slice a1 n1 c1],.agg #[.slice a2 n2 c2]] w fun en w'=>(∃ A N C,en = .returned (.agg #[.slice A N C])∧Mine w' w.heap.size A N C v)∧Below w.heap.size w w':=by
 obtain ⟨cs9,t9_,hp,hp0⟩:=hR
 refine calls_sym Tryz.func73 rfl (by kernel_rfl) fun T hK=>?_
 replace hK:Kn T _ [(0,.pointer (some ⟨p,0,none⟩)),(1,.agg #[.slice a1 n1 c1]),(2,.agg #[.slice a2 n2 c2])]:=hK
 have hS:=Fb.other hp
 have hG:GsAt [gN a1 n1 x,gN a2 n2 y] w:=⟨h1,h2,trivial⟩
 refine wq hS hG hK (fun p1=>[.n 4 #[.slice a1 n1 c1] 28,.n 5 #[.slice a2 n2 c2] 28,.n 6 #[.slice none 0 0] 28]) (fun p1=>[(0,.pointer (some ⟨p,0,none⟩)),(4,pT (p1 0).N 0),(5,pT (p1 1).N 0),(6,pT (p1 2).N 0)]) (fun p1=>?_) (fun p1 W1 T hF hK=>?_)
 ·iterate 3 refine okn ?_
  exact ok_nil
 replace hS:=SymF.fc hS hF [0,1000,1001,1002] [⟨p,cs9,t9_,false⟩,⟨(p1 0).N,#[.slice a1 n1 c1],28,true⟩,⟨(p1 1).N,#[.slice a2 n2 c2],28,true⟩,⟨(p1 2).N,#[.slice none 0 0],28,true⟩]
 replace hG:=hF.gx
 clear hF
 have z1:=hS.fr.size
 refine wq hS hG hK (fun p2=>[.v 7 (.pointer (some ⟨p,0,none⟩)),.v 8 (.pointer (some ⟨p,0,none⟩)),.v 9 (.pointer (some ⟨p,0,none⟩)),.l 10 (.agg #[.slice a1 n1 c1]) 1 0,.l 11 (.agg #[.slice a2 n2 c2]) 2 0,.c (some 12) (cO W1.heap.size v),.v 13 (.agg #[.slice (p2 5).A (p2 5).N (p2 5).C]),.v 14 (.int .i64 0),.u 15 (.agg #[.slice (p2 5).A (p2 5).N (p2 5).C]) (aG 1),.p 3 0 [.slice (p2 5).A (p2 5).N (p2 5).C]]) (fun p2=>[(6,pT (p1 2).N 0)]) (fun p2=>?_) (fun p2 W2 T hF hK=>?_)
 ·iterate 3 refine okv ?_
  iterate 2 refine okl ?_
  refine okc (fun W cx=>as_o cx.hb (unhide H _ _ _ c1 _ _ c2 (cx.G.1) (cx.G.2.1))) ?_
  iterate 2 refine okv ?_
  refine oku (fun W cx=>runNat_z p 0 _ _ _ _ ⟨_,_,cx.B 0 _ rfl (by kernel_rfl) (by kernel_rfl),hp0⟩) ?_
  refine okp ?_
  exact ok_nil
 replace hS:=SymF.fc hS hF [0,3] [⟨p,cs9,t9_,false⟩,⟨(p1 2).N,#[.slice (p2 5).A (p2 5).N (p2 5).C],28,true⟩]
 replace hG:GsAt (gM W1.heap.size (p2 5).A (p2 5).N (p2 5).C v :: _) W2:=⟨hF.fx 5,hF.gx⟩
 clear hF
 refine wp_ret ?_
 exact sym_end hS hK (.agg #[.slice (p2 5).A (p2 5).N (p2 5).C]) [(1,0,1)] [.slice (p2 5).A (p2 5).N (p2 5).C] (by kernel_rfl) (by kernel_rfl) ⟨⟨_,_,_,rfl,Mine.mono hG.1 z1⟩,hS.fr⟩
theorem zdiv (w:World) (p:Nat) (a1 a2:Option Addr) (n1 n2 c1 c2 x y v u:Nat) (hR:Rz w p 0) (h1:Num w a1 n1 x) (h2:Num w a2 n2 y) (H:Hid (∀ (W:World) (a:Option Addr) (n c:Nat) (a':Option Addr) (n' c':Nat),Num W a n x→Num W a' n' y→Calls Tryz.prog 98 #[.agg #[.slice a n c],.agg #[.slice a' n' c']] W fun en W'=>(∃ A N C A' N' C',en = .returned (.tuple #[.agg #[.slice A N C],.agg #[.slice A' N' C'],.int .i64 0])∧Mine W' W.heap.size A N C v∧Mine W' W.heap.size A' N' C' u)∧Below W.heap.size W W')) :
  Calls Tryz.prog 107 #[.pointer (some ⟨p,0,none⟩),.agg #[.slice a1 n1 c1],.agg #[.slice a2 n2 c2]] w fun en w'=>(∃ A N C A' N' C',en = .returned (.tuple #[.agg #[.slice A N C],.agg #[.slice A' N' C']])∧Mine w' w.heap.size A N C v∧Mine w' w.heap.size A' N' C' u)∧Below w.heap.size w w':=by
 obtain ⟨cs9,t9_,hp,hp0⟩:=hR
 refine calls_sym Tryz.func107 rfl (by kernel_rfl) fun T hK=>?_
 replace hK:Kn T _ [(0,.pointer (some ⟨p,0,none⟩)),(1,.agg #[.slice a1 n1 c1]),(2,.agg #[.slice a2 n2 c2])]:=hK
 have hS:=Fb.other hp
 have hG:GsAt [gN a1 n1 x,gN a2 n2 y] w:=⟨h1,h2,trivial⟩
 refine wq hS hG hK (fun p1=>[.n 4 #[.slice a1 n1 c1] 28,.n 5 #[.slice a2 n2 c2] 28,.n 6 #[.slice none 0 0] 28,.n 7 #[.slice none 0 0] 28]) (fun p1=>[(0,.pointer (some ⟨p,0,none⟩)),(4,pT (p1 0).N 0),(5,pT (p1 1).N 0),(6,pT (p1 2).N 0),(7,pT (p1 3).N 0)]) (fun p1=>?_) (fun p1 W1 T hF hK=>?_)
 ·iterate 4 refine okn ?_
  exact ok_nil
 replace hS:=SymF.fc hS hF [0,1000,1001,1002,1003] [⟨p,cs9,t9_,false⟩,⟨(p1 0).N,#[.slice a1 n1 c1],28,true⟩,⟨(p1 1).N,#[.slice a2 n2 c2],28,true⟩,⟨(p1 2).N,#[.slice none 0 0],28,true⟩,⟨(p1 3).N,#[.slice none 0 0],28,true⟩]
 replace hG:=hF.gx
 clear hF
 have z1:=hS.fr.size
 refine wq hS hG hK (fun p2=>[.v 8 (.pointer (some ⟨p,0,none⟩)),.v 9 (.pointer (some ⟨p,0,none⟩)),.v 10 (.pointer (some ⟨p,0,none⟩)),.l 11 (.agg #[.slice a1 n1 c1]) 1 0,.l 12 (.agg #[.slice a2 n2 c2]) 2 0,.c (some 13) (cD W1.heap.size v u),.v 14 (.agg #[.slice (p2 5).A (p2 5).N (p2 5).C]),.v 15 (.agg #[.slice (p2 5).A' (p2 5).N' (p2 5).C']),.v 16 (.int .i64 0),.u 17 (.tuple #[.agg #[.slice (p2 5).A (p2 5).N (p2 5).C],.agg #[.slice (p2 5).A' (p2 5).N' (p2 5).C']]) (aH 1 2),.v 18 (.agg #[.slice (p2 5).A (p2 5).N (p2 5).C]),.v 19 (.agg #[.slice (p2 5).A' (p2 5).N' (p2 5).C']),.p 3 0 [.slice (p2 5).A (p2 5).N (p2 5).C],.p 4 0 [.slice (p2 5).A' (p2 5).N' (p2 5).C']]) (fun p2=>[(6,pT (p1 2).N 0),(7,pT (p1 3).N 0)]) (fun p2=>?_) (fun p2 W2 T hF hK=>?_)
 ·iterate 3 refine okv ?_
  iterate 2 refine okl ?_
  refine okc (fun W cx=>as_d cx.hb (unhide H _ _ _ c1 _ _ c2 (cx.G.1) (cx.G.2.1))) ?_
  iterate 3 refine okv ?_
  refine oku (fun W cx=>runNats_z p 0 _ _ _ _ _ _ _ ⟨_,_,cx.B 0 _ rfl (by kernel_rfl) (by kernel_rfl),hp0⟩) ?_
  iterate 2 refine okv ?_
  iterate 2 refine okp ?_
  exact ok_nil
 replace hS:=SymF.fc hS hF [0,3,4] [⟨p,cs9,t9_,false⟩,⟨(p1 2).N,#[.slice (p2 5).A (p2 5).N (p2 5).C],28,true⟩,⟨(p1 3).N,#[.slice (p2 5).A' (p2 5).N' (p2 5).C'],28,true⟩]
 replace hG:GsAt (gM W1.heap.size (p2 5).A (p2 5).N (p2 5).C v :: gM W1.heap.size (p2 5).A' (p2 5).N' (p2 5).C' u :: _) W2:=⟨And.left (hF.fx 5),And.right (hF.fx 5),hF.gx⟩
 clear hF
 refine wp_ret ?_
 exact sym_end hS hK (.tuple #[.agg #[.slice (p2 5).A (p2 5).N (p2 5).C],.agg #[.slice (p2 5).A' (p2 5).N' (p2 5).C']]) [(1,0,1),(2,0,1)] [.slice (p2 5).A (p2 5).N (p2 5).C,.slice (p2 5).A' (p2 5).N' (p2 5).C'] (by kernel_rfl) (by kernel_rfl) ⟨⟨_,_,_,_,_,_,rfl,Mine.mono hG.1 z1,Mine.mono hG.2.1 z1⟩,hS.fr⟩
theorem zcmp (w:World) (p:Nat) (a1 a2:Option Addr) (n1 n2 c1 c2 x y:Nat) (r:Int) (hR:Rz w p 0) (h1:Num w a1 n1 x) (h2:Num w a2 n2 y) (H:Hid (∀ (W:World) (a:Option Addr) (n c:Nat) (a':Option Addr) (n' c':Nat),Num W a n x→Num W a' n' y→Calls Tryz.prog 151 #[.agg #[.slice a n c],.agg #[.slice a' n' c']] W fun en W'=>en = .returned (.tuple #[.int .i64 r,.int .i64 0])∧Below W.heap.size W W')) :
  Calls Tryz.prog 119 #[.pointer (some ⟨p,0,none⟩),.agg #[.slice a1 n1 c1],.agg #[.slice a2 n2 c2]] w fun en w'=>en = .returned (.int .i64 r)∧Below w.heap.size w w':=by
 obtain ⟨cs9,t9_,hp,hp0⟩:=hR
 refine calls_sym Tryz.func119 rfl (by kernel_rfl) fun T hK=>?_
 replace hK:Kn T _ [(0,.pointer (some ⟨p,0,none⟩)),(1,.agg #[.slice a1 n1 c1]),(2,.agg #[.slice a2 n2 c2])]:=hK
 have hS:=Fb.other hp
 have hG:GsAt [gN a1 n1 x,gN a2 n2 y] w:=⟨h1,h2,trivial⟩
 refine wq hS hG hK (fun p1=>[.n 4 #[.slice a1 n1 c1] 28,.n 5 #[.slice a2 n2 c2] 28,.v 6 (.int .i64 0)]) (fun p1=>[(0,.pointer (some ⟨p,0,none⟩)),(4,pT (p1 0).N 0),(5,pT (p1 1).N 0),(6,.int .i64 0)]) (fun p1=>?_) (fun p1 W1 T hF hK=>?_)
 ·iterate 2 refine okn ?_
  refine okv ?_
  exact ok_nil
 replace hS:=SymF.fc hS hF [0,1000,1001] [⟨p,cs9,t9_,false⟩,⟨(p1 0).N,#[.slice a1 n1 c1],28,true⟩,⟨(p1 1).N,#[.slice a2 n2 c2],28,true⟩]
 replace hG:=hF.gx
 clear hF
 refine wq hS hG hK (fun p2=>[.v 7 (.pointer (some ⟨p,0,none⟩)),.v 8 (.pointer (some ⟨p,0,none⟩)),.v 9 (.pointer (some ⟨p,0,none⟩)),.l 10 (.agg #[.slice a1 n1 c1]) 1 0,.l 11 (.agg #[.slice a2 n2 c2]) 2 0,.c (some 12) (cV (.tuple #[.int .i64 r,.int .i64 0])),.v 13 (.int .i64 r),.v 14 (.int .i64 0),.u 15 (.int .i64 r) (aG 1),.v 6 (.int .i64 r)]) (fun p2=>[(6,.int .i64 r)]) (fun p2=>?_) (fun p2 W2 T hF hK=>?_)
 ·iterate 3 refine okv ?_
  iterate 2 refine okl ?_
  refine okc (fun W cx=>as_v (unhide H _ _ _ c1 _ _ c2 (cx.G.1) (cx.G.2.1))) ?_
  iterate 2 refine okv ?_
  refine oku (fun W cx=>runInt_z p 0 _ _ ⟨_,_,cx.B 0 _ rfl (by kernel_rfl) (by kernel_rfl),hp0⟩) ?_
  refine okv ?_
  exact ok_nil
 obtain ⟨hS,hG⟩:=SymF.fg hS hF
 clear hF
 refine wp_ret ?_
 exact sym_end hS hK (.int .i64 r) [] [] (by kernel_rfl) (by kernel_rfl) ⟨rfl,hS.fr⟩
theorem zover (w:World) (p:Nat) (a1 a2:Option Addr) (n1 n2 c1 c2 x y v u:Nat) (hR:Rz w p 0) (h1:Num w a1 n1 x) (h2:Num w a2 n2 y) (H:Hid (WDiv p x y v u))  :
  Calls Tryz.prog 75 #[.pointer (some ⟨p,0,none⟩),.agg #[.slice a1 n1 c1],.agg #[.slice a2 n2 c2]] w fun en w'=>(∃ A N C,en = .returned (.agg #[.slice A N C])∧Mine w' w.heap.size A N C v)∧Below w.heap.size w w':=by
 obtain ⟨cs9,t9_,hp,hp0⟩:=hR
 refine calls_sym Tryz.func75 rfl (by kernel_rfl) fun T hK=>?_
 replace hK:Kn T _ [(0,.pointer (some ⟨p,0,none⟩)),(1,.agg #[.slice a1 n1 c1]),(2,.agg #[.slice a2 n2 c2])]:=hK
 have hS:=Fb.other hp
 have hG:GsAt [gN a1 n1 x,gN a2 n2 y] w:=⟨h1,h2,trivial⟩
 refine wq hS hG hK (fun p1=>[.n 4 #[.slice a1 n1 c1] 28,.n 5 #[.slice a2 n2 c2] 28,.n 6 #[.slice none 0 0] 28]) (fun p1=>[(0,.pointer (some ⟨p,0,none⟩)),(4,pT (p1 0).N 0),(5,pT (p1 1).N 0),(6,pT (p1 2).N 0)]) (fun p1=>?_) (fun p1 W1 T hF hK=>?_)
 ·iterate 3 refine okn ?_
  exact ok_nil
 replace hS:=SymF.fc hS hF [0,1000,1001,1002] [⟨p,cs9,t9_,false⟩,⟨(p1 0).N,#[.slice a1 n1 c1],28,true⟩,⟨(p1 1).N,#[.slice a2 n2 c2],28,true⟩,⟨(p1 2).N,#[.slice none 0 0],28,true⟩]
 replace hG:=hF.gx
 clear hF
 have z1:=hS.fr.size
 refine wq hS hG hK (fun p2=>[.v 10 (.pointer (some ⟨p,0,none⟩)),.l 11 (.agg #[.slice a1 n1 c1]) 1 0,.l 12 (.agg #[.slice a2 n2 c2]) 2 0,.c (some 13) (cH W1.heap.size v u fun x9 y9=>.tuple #[.agg #[x9],.agg #[y9]]),.v 9 (.tuple #[.agg #[.slice (p2 3).A (p2 3).N (p2 3).C],.agg #[.slice (p2 3).A' (p2 3).N' (p2 3).C']]),.v 14 (.agg #[.slice (p2 3).A (p2 3).N (p2 3).C]),.v 15 (.agg #[.slice (p2 3).A' (p2 3).N' (p2 3).C']),.n 7 #[.slice none 0 0] 28,.n 8 #[.slice none 0 0] 28,.p 1007 0 [.slice (p2 3).A (p2 3).N (p2 3).C],.p 1008 0 [.slice (p2 3).A' (p2 3).N' (p2 3).C']]) (fun p2=>[(6,pT (p1 2).N 0),(7,pT (p2 7).N 0)]) (fun p2=>?_) (fun p2 W2 T hF hK=>?_)
 ·refine okv ?_
  iterate 2 refine okl ?_
  refine okc (fun W cx=>as_h cx.hb (unhide H _ _ _ c1 _ _ c2 ⟨_,_,cx.B 0 _ rfl (by kernel_rfl) (by kernel_rfl),hp0⟩ (cx.G.1) (cx.G.2.1))) ?_
  iterate 3 refine okv ?_
  iterate 2 refine okn ?_
  iterate 2 refine okp ?_
  exact ok_nil
 replace hS:=SymF.fc hS hF [0,3,1007] [⟨p,cs9,t9_,false⟩,⟨(p1 2).N,#[.slice none 0 0],28,true⟩,⟨(p2 7).N,#[.slice (p2 3).A (p2 3).N (p2 3).C],28,true⟩]
 replace hG:GsAt (gM W1.heap.size (p2 3).A (p2 3).N (p2 3).C v :: gM W1.heap.size (p2 3).A' (p2 3).N' (p2 3).C' u :: _) W2:=⟨And.left (hF.fx 3),And.right (hF.fx 3),hF.gx⟩
 clear hF
 refine wq hS hG hK (fun p3=>[.l 16 (.agg #[.slice (p2 3).A (p2 3).N (p2 3).C]) 2 0,.p 1 0 [.slice (p2 3).A (p2 3).N (p2 3).C]]) (fun p3=>[(6,pT (p1 2).N 0)]) (fun p3=>?_) (fun p3 W3 T hF hK=>?_)
 ·refine okl ?_
  refine okp ?_
  exact ok_nil
 replace hS:=SymF.fc hS hF [0,1] [⟨p,cs9,t9_,false⟩,⟨(p1 2).N,#[.slice (p2 3).A (p2 3).N (p2 3).C],28,true⟩]
 replace hG:=hF.gx
 clear hF
 refine wp_ret ?_
 exact sym_end hS hK (.agg #[.slice (p2 3).A (p2 3).N (p2 3).C]) [(1,0,1)] [.slice (p2 3).A (p2 3).N (p2 3).C] (by kernel_rfl) (by kernel_rfl) ⟨⟨_,_,_,rfl,Mine.mono hG.1 z1⟩,hS.fr⟩
theorem znou_t (w:World) (a:Option Addr) (n c:Nat) (hn:n = 0) :
  Calls Tryz.prog 72 #[.agg #[.slice a n c]] w fun en w'=>en = .returned (.bool true)∧Below w.heap.size w w':=by
 refine calls_sym Tryz.func72 rfl (by kernel_rfl) fun T hK=>?_
 replace hK:Kn T _ [(0,.agg #[.slice a n c])]:=hK
 have hS:=Fb.begin w
 have hG:GsAt [] w:=trivial
 refine wq hS hG hK (fun p1=>[.n 1 #[.slice a n c] 28,.v 2 (.bool false)]) (fun p1=>[(1,pT (p1 0).N 0),(2,.bool false)]) (fun p1=>?_) (fun p1 W1 T hF hK=>?_)
 ·refine okn ?_
  refine okv ?_
  exact ok_nil
 replace hS:=SymF.fc hS hF [1000] [⟨(p1 0).N,#[.slice a n c],28,true⟩]
 replace hG:=hF.gx
 clear hF
 refine wq hS hG hK (fun p2=>[.v 3 (pT (p1 0).N 0),.l 4 (.slice a n c) 0 0,.v 5 (.int .i64 (n:Int)),.v 6 (.bool true),.v 2 (.bool true)]) (fun p2=>[(2,.bool true)]) (fun p2=>?_) (fun p2 W2 T hF hK=>?_)
 ·refine okv ?_
  refine okl ?_
  refine okv ?_
  refine okvb (beq_iff_eq.2 (show (n:Int) = 0 by omega)) ?_
  refine okv ?_
  exact ok_nil
 replace hS:=SymF.fc hS hF [] []
 replace hG:=hF.gx
 clear hF
 refine wp_ret ?_
 exact sym_end hS hK (.bool true) [] [] (by kernel_rfl) (by kernel_rfl) ⟨rfl,hS.fr⟩
theorem znou_f (w:World) (a:Option Addr) (n c:Nat) (hn:n≠0) :
  Calls Tryz.prog 72 #[.agg #[.slice a n c]] w fun en w'=>en = .returned (.bool false)∧Below w.heap.size w w':=by
 refine calls_sym Tryz.func72 rfl (by kernel_rfl) fun T hK=>?_
 replace hK:Kn T _ [(0,.agg #[.slice a n c])]:=hK
 have hS:=Fb.begin w
 have hG:GsAt [] w:=trivial
 refine wq hS hG hK (fun p1=>[.n 1 #[.slice a n c] 28,.v 2 (.bool false)]) (fun p1=>[(1,pT (p1 0).N 0),(2,.bool false)]) (fun p1=>?_) (fun p1 W1 T hF hK=>?_)
 ·refine okn ?_
  refine okv ?_
  exact ok_nil
 replace hS:=SymF.fc hS hF [1000] [⟨(p1 0).N,#[.slice a n c],28,true⟩]
 replace hG:=hF.gx
 clear hF
 refine wq hS hG hK (fun p2=>[.v 3 (pT (p1 0).N 0),.l 4 (.slice a n c) 0 0,.v 5 (.int .i64 (n:Int)),.v 6 (.bool false),.v 2 (.bool false)]) (fun p2=>[(2,.bool false)]) (fun p2=>?_) (fun p2 W2 T hF hK=>?_)
 ·refine okv ?_
  refine okl ?_
  refine okv ?_
  refine okvb (beq_false_of_ne (show (n:Int)≠0 by omega)) ?_
  refine okv ?_
  exact ok_nil
 replace hS:=SymF.fc hS hF [] []
 replace hG:=hF.gx
 clear hF
 refine wp_ret ?_
 exact sym_end hS hK (.bool false) [] [] (by kernel_rfl) (by kernel_rfl) ⟨rfl,hS.fr⟩
theorem znought (a:Option Addr) (n cap:Nat) (w:World) (b:Bool) (h:decide (n = 0) = b):Calls Tryz.prog 72 #[.agg #[.slice a n cap]] w fun e w'=>e = .returned (.bool b)∧Below w.heap.size w w':=by
 subst h
 by_cases hn:n = 0
 ·rw [decide_eq_true hn]; exact znou_t w a n cap hn
 ·rw [decide_eq_false hn]; exact znou_f w a n cap hn
theorem Num.zdec {w:World} {a:Option Addr} {n m:Nat} (h:Num w a n m):decide (n = 0) = decide (m = 0):=by
 by_cases hm:m = 0
 ·rw [decide_eq_true hm,decide_eq_true (h.zero.2 hm)]
 ·rw [decide_eq_false hm,decide_eq_false fun e=>hm (h.zero.1 e)]
def c5 (B m1 m2 m3 m4 m5:Nat) (b:Bool):Cf:=⟨fun q=>.agg #[.slice q.A q.N q.C,.slice q.A' q.N' q.C',.slice q.A2 q.N2 q.C2,.slice q.A3 q.N3 q.C3,.slice q.A4 q.N4 q.C4,.bool b],fun q W=>Mine W B q.A q.N q.C m1∧Mine W B q.A' q.N' q.C' m2∧Mine W B q.A2 q.N2 q.C2 m3∧Mine W B q.A3 q.N3 q.C3 m4∧Mine W B q.A4 q.N4 q.C4 m5,fun _=>sta_and (sta_mine _ _ _ _ _) (sta_and (sta_mine _ _ _ _ _) (sta_and (sta_mine _ _ _ _ _) (sta_and (sta_mine _ _ _ _ _) (sta_mine _ _ _ _ _))))⟩
def WFr (p:Nat) (s:Bool) (x y:Nat) (g:Bool):Prop:=∀ (W:World) (a:Option Addr) (n c:Nat) (a':Option Addr) (n' c':Nat),Rz W p 0→Num W a n x→Num W a' n' y→Calls Tryz.prog 74 #[.pointer (some ⟨p,0,none⟩),.bool s,.agg #[.slice a n c],.agg #[.slice a' n' c']] W fun en W'=>en = .returned (.tuple #[.agg #[.bool g,.slice a n c,.slice a' n' c'],.int .i64 0])∧Below W.heap.size W W'
theorem zfra_t (w:World) (p:Nat) (a1 a2:Option Addr) (n1 n2 c1 c2 x y:Nat) (b:Bool) (hR:Rz w p 0) (h1:Num w a1 n1 x) (h2:Num w a2 n2 y) (hz:decide (x = 0) = b)  :
  Calls Tryz.prog 74 #[.pointer (some ⟨p,0,none⟩),.bool true,.agg #[.slice a1 n1 c1],.agg #[.slice a2 n2 c2]] w fun en w'=>en = .returned (.tuple #[.agg #[.bool (!b),.slice a1 n1 c1,.slice a2 n2 c2],.int .i64 0])∧Below w.heap.size w w':=by
 obtain ⟨cs9,t9_,hp,hp0⟩:=hR
 refine calls_sym Tryz.func74 rfl (by kernel_rfl) fun T hK=>?_
 replace hK:Kn T _ [(0,.pointer (some ⟨p,0,none⟩)),(1,.bool true),(2,.agg #[.slice a1 n1 c1]),(3,.agg #[.slice a2 n2 c2])]:=hK
 have hS:=Fb.other hp
 have hG:GsAt [gN a1 n1 x,gN a2 n2 y] w:=⟨h1,h2,trivial⟩
 refine wq hS hG hK (fun p1=>[.n 6 #[.slice a1 n1 c1] 28,.n 7 #[.slice a2 n2 c2] 28,.n 8 #[.bool false,.slice none 0 0,.slice none 0 0] 41,.v 9 (.int .i64 0)]) (fun p1=>[(0,.pointer (some ⟨p,0,none⟩)),(1,.bool true),(6,pT (p1 0).N 0),(7,pT (p1 1).N 0),(8,pT (p1 2).N 0),(9,.int .i64 0)]) (fun p1=>?_) (fun p1 W1 T hF hK=>?_)
 ·iterate 3 refine okn ?_
  refine okv ?_
  exact ok_nil
 replace hS:=SymF.fc hS hF [0,1000,1001,1002] [⟨p,cs9,t9_,false⟩,⟨(p1 0).N,#[.slice a1 n1 c1],28,true⟩,⟨(p1 1).N,#[.slice a2 n2 c2],28,true⟩,⟨(p1 2).N,#[.bool false,.slice none 0 0,.slice none 0 0],41,true⟩]
 replace hG:=hF.gx
 clear hF
 refine wp_seq ?_
 refine wq hS hG hK (fun p2=>[.v 10 (.pointer (some ⟨p,0,none⟩)),.v 11 (.pointer (some ⟨p,0,none⟩)),.v 12 (.pointer (some ⟨p,0,none⟩)),.v 13 (.pointer (some ⟨p,0,none⟩)),.g 14 (.int .i64 0) [.int .i64 0] [.ld ⟨p,0,none⟩ (.int .i64 0)],.v 15 (.bool false)]) (fun p2=>[(0,.pointer (some ⟨p,0,none⟩)),(1,.bool true),(6,pT (p1 0).N 0),(7,pT (p1 1).N 0),(8,pT (p1 2).N 0),(9,.int .i64 0),(15,.bool false)]) (fun p2=>?_) (fun p2 W2 T hF hK=>?_)
 ·iterate 4 refine okv ?_
  refine ok_g (fun W cx=>⟨⟨(Rz.cell (k:=0) ⟨_,_,cx.B 0 _ rfl (by kernel_rfl) (by kernel_rfl),hp0⟩).1,trivial⟩,rfl⟩) (by kernel_rfl) ?_
  refine okv ?_
  exact ok_nil
 obtain ⟨hS,hG⟩:=SymF.fg hS hF
 clear hF
 refine wp_cond_false (hK.ew 15) (wp_skip (then_n ?_))
 refine wq hS hG hK (fun p3=>[.v 22 (.bool true),.v 23 (.bool true),.l 24 (.agg #[.slice a1 n1 c1]) 1 0,.c (some 25) (cV (.bool b)),.v 26 (.bool (!b)),.v 27 (.bool (!b)),.l 28 (.agg #[.slice a1 n1 c1]) 1 0,.l 29 (.agg #[.slice a2 n2 c2]) 2 0,.v 30 (.agg #[.bool (!b),.slice a1 n1 c1,.slice a2 n2 c2]),.p 3 0 [.bool (!b),.slice a1 n1 c1,.slice a2 n2 c2],.v 9 (.int .i64 0)]) (fun p3=>[(0,.pointer (some ⟨p,0,none⟩)),(8,pT (p1 2).N 0),(9,.int .i64 0)]) (fun p3=>?_) (fun p3 W3 T hF hK=>?_)
 ·iterate 2 refine okv ?_
  refine okl ?_
  refine okc (fun W cx=>as_v (znought a1 _ c1 _ _ ((Num.zdec (cx.G.1)).trans hz))) ?_
  iterate 2 refine okv ?_
  iterate 2 refine okl ?_
  refine okv ?_
  refine okp ?_
  refine okv ?_
  exact ok_nil
 replace hS:=SymF.fc hS hF [0,3] [⟨p,cs9,t9_,false⟩,⟨(p1 2).N,#[.bool (!b),.slice a1 n1 c1,.slice a2 n2 c2],41,true⟩]
 replace hG:=hF.gx
 clear hF
 refine wp_ret ?_
 exact sym_end hS hK (.tuple #[.agg #[.bool (!b),.slice a1 n1 c1,.slice a2 n2 c2],.int .i64 0]) [(1,0,3)] [.bool (!b),.slice a1 n1 c1,.slice a2 n2 c2] (by kernel_rfl) (by kernel_rfl) ⟨rfl,hS.fr⟩
theorem zfra_f (w:World) (p:Nat) (a1 a2:Option Addr) (n1 n2 c1 c2 x y:Nat) (hR:Rz w p 0) (h1:Num w a1 n1 x) (h2:Num w a2 n2 y)  :
  Calls Tryz.prog 74 #[.pointer (some ⟨p,0,none⟩),.bool false,.agg #[.slice a1 n1 c1],.agg #[.slice a2 n2 c2]] w fun en w'=>en = .returned (.tuple #[.agg #[.bool false,.slice a1 n1 c1,.slice a2 n2 c2],.int .i64 0])∧Below w.heap.size w w':=by
 obtain ⟨cs9,t9_,hp,hp0⟩:=hR
 refine calls_sym Tryz.func74 rfl (by kernel_rfl) fun T hK=>?_
 replace hK:Kn T _ [(0,.pointer (some ⟨p,0,none⟩)),(1,.bool false),(2,.agg #[.slice a1 n1 c1]),(3,.agg #[.slice a2 n2 c2])]:=hK
 have hS:=Fb.other hp
 have hG:GsAt [gN a1 n1 x,gN a2 n2 y] w:=⟨h1,h2,trivial⟩
 refine wq hS hG hK (fun p1=>[.n 6 #[.slice a1 n1 c1] 28,.n 7 #[.slice a2 n2 c2] 28,.n 8 #[.bool false,.slice none 0 0,.slice none 0 0] 41,.v 9 (.int .i64 0)]) (fun p1=>[(0,.pointer (some ⟨p,0,none⟩)),(1,.bool false),(6,pT (p1 0).N 0),(7,pT (p1 1).N 0),(8,pT (p1 2).N 0),(9,.int .i64 0)]) (fun p1=>?_) (fun p1 W1 T hF hK=>?_)
 ·iterate 3 refine okn ?_
  refine okv ?_
  exact ok_nil
 replace hS:=SymF.fc hS hF [0,1000,1001,1002] [⟨p,cs9,t9_,false⟩,⟨(p1 0).N,#[.slice a1 n1 c1],28,true⟩,⟨(p1 1).N,#[.slice a2 n2 c2],28,true⟩,⟨(p1 2).N,#[.bool false,.slice none 0 0,.slice none 0 0],41,true⟩]
 replace hG:=hF.gx
 clear hF
 refine wp_seq ?_
 refine wq hS hG hK (fun p2=>[.v 10 (.pointer (some ⟨p,0,none⟩)),.v 11 (.pointer (some ⟨p,0,none⟩)),.v 12 (.pointer (some ⟨p,0,none⟩)),.v 13 (.pointer (some ⟨p,0,none⟩)),.g 14 (.int .i64 0) [.int .i64 0] [.ld ⟨p,0,none⟩ (.int .i64 0)],.v 15 (.bool false)]) (fun p2=>[(0,.pointer (some ⟨p,0,none⟩)),(1,.bool false),(6,pT (p1 0).N 0),(7,pT (p1 1).N 0),(8,pT (p1 2).N 0),(9,.int .i64 0),(15,.bool false)]) (fun p2=>?_) (fun p2 W2 T hF hK=>?_)
 ·iterate 4 refine okv ?_
  refine ok_g (fun W cx=>⟨⟨(Rz.cell (k:=0) ⟨_,_,cx.B 0 _ rfl (by kernel_rfl) (by kernel_rfl),hp0⟩).1,trivial⟩,rfl⟩) (by kernel_rfl) ?_
  refine okv ?_
  exact ok_nil
 obtain ⟨hS,hG⟩:=SymF.fg hS hF
 clear hF
 refine wp_cond_false (hK.ew 15) (wp_skip (then_n ?_))
 refine wq hS hG hK (fun p3=>[.v 22 (.bool false),.v 23 (.bool false),.k (some 24),.k (some 25),.k (some 26),.v 27 (.bool false),.l 28 (.agg #[.slice a1 n1 c1]) 1 0,.l 29 (.agg #[.slice a2 n2 c2]) 2 0,.v 30 (.agg #[.bool false,.slice a1 n1 c1,.slice a2 n2 c2]),.p 3 0 [.bool false,.slice a1 n1 c1,.slice a2 n2 c2],.v 9 (.int .i64 0)]) (fun p3=>[(0,.pointer (some ⟨p,0,none⟩)),(8,pT (p1 2).N 0),(9,.int .i64 0)]) (fun p3=>?_) (fun p3 W3 T hF hK=>?_)
 ·iterate 2 refine okv ?_
  iterate 3 refine okk ?_
  refine okv ?_
  iterate 2 refine okl ?_
  refine okv ?_
  refine okp ?_
  refine okv ?_
  exact ok_nil
 replace hS:=SymF.fc hS hF [0,3] [⟨p,cs9,t9_,false⟩,⟨(p1 2).N,#[.bool false,.slice a1 n1 c1,.slice a2 n2 c2],41,true⟩]
 replace hG:=hF.gx
 clear hF
 refine wp_ret ?_
 exact sym_end hS hK (.tuple #[.agg #[.bool false,.slice a1 n1 c1,.slice a2 n2 c2],.int .i64 0]) [(1,0,3)] [.bool false,.slice a1 n1 c1,.slice a2 n2 c2] (by kernel_rfl) (by kernel_rfl) ⟨rfl,hS.fr⟩
theorem zbck (w:World) (a1 a2 a3 a4:Option Addr) (n1 n2 n3 n4 c1 c2 c3 c4 m1 d1 m2 d2:Nat) (s t:Bool) (h1:Num w a1 n1 m1) (h2:Num w a2 n2 d1) (h3:Num w a3 n3 m2) (h4:Num w a4 n4 d2) (C1:Hid (∀ W:World,Num W a1 n1 m1→Num W a2 n2 d1→Calls Tryz.prog 115 #[.agg #[.bool s,.slice a1 n1 c1,.slice a2 n2 c2]] W fun e W'=>e = .returned (.int .i64 0)∧Below W.heap.size W W')) (C2:Hid (∀ W:World,Num W a3 n3 m2→Num W a4 n4 d2→Calls Tryz.prog 115 #[.agg #[.bool t,.slice a3 n3 c3,.slice a4 n4 c4]] W fun e W'=>e = .returned (.int .i64 0)∧Below W.heap.size W W'))  :
  Calls Tryz.prog 88 #[.agg #[.bool s,.slice a1 n1 c1,.slice a2 n2 c2,.bool t,.slice a3 n3 c3,.slice a4 n4 c4]] w fun en w'=>en = .returned (.int .i64 0)∧Below w.heap.size w w':=by
 refine calls_sym Tryz.func88 rfl (by kernel_rfl) fun T hK=>?_
 replace hK:Kn T _ [(0,.agg #[.bool s,.slice a1 n1 c1,.slice a2 n2 c2,.bool t,.slice a3 n3 c3,.slice a4 n4 c4])]:=hK
 have hS:=Fb.begin w
 have hG:GsAt [gN a1 n1 m1,gN a2 n2 d1,gN a3 n3 m2,gN a4 n4 d2] w:=⟨h1,h2,h3,h4,trivial⟩
 refine wq hS hG hK (fun p1=>[.n 1 #[.bool s,.slice a1 n1 c1,.slice a2 n2 c2,.bool t,.slice a3 n3 c3,.slice a4 n4 c4] 135,.v 2 (.int .i64 0)]) (fun p1=>[(1,pT (p1 0).N 0),(2,.int .i64 0)]) (fun p1=>?_) (fun p1 W1 T hF hK=>?_)
 ·refine okn ?_
  refine okv ?_
  exact ok_nil
 replace hS:=SymF.fc hS hF [1000] [⟨(p1 0).N,#[.bool s,.slice a1 n1 c1,.slice a2 n2 c2,.bool t,.slice a3 n3 c3,.slice a4 n4 c4],135,true⟩]
 replace hG:=hF.gx
 clear hF
 refine wp_seq ?_
 refine wq hS hG hK (fun p2=>[.v 4 (pT (p1 0).N 0),.l 5 (.agg #[.bool s,.slice a1 n1 c1,.slice a2 n2 c2]) 0 0,.c (some 6) (cV (.int .i64 0)),.v 3 (.int .i64 0)]) (fun p2=>[(1,pT (p1 0).N 0),(2,.int .i64 0),(3,.int .i64 0)]) (fun p2=>?_) (fun p2 W2 T hF hK=>?_)
 ·refine okv ?_
  refine okl ?_
  refine okc (fun W cx=>as_v (unhide C1 _ (cx.G.1) (cx.G.2.1))) ?_
  refine okv ?_
  exact ok_nil
 obtain ⟨hS,hG⟩:=SymF.fg hS hF
 clear hF
 refine wq hS hG hK (fun p3=>[.v 7 (.int .i64 0),.v 8 (.bool false)]) (fun p3=>[(1,pT (p1 0).N 0),(2,.int .i64 0),(3,.int .i64 0),(8,.bool false)]) (fun p3=>?_) (fun p3 W3 T hF hK=>?_)
 ·iterate 2 refine okv ?_
  exact ok_nil
 obtain ⟨hS,hG⟩:=SymF.fg hS hF
 clear hF
 refine wp_cond_false (hK.ew 8) (wp_skip (then_n ?_))
 refine wq hS hG hK (fun p4=>[.v 10 (pT (p1 0).N 3),.l 11 (.agg #[.bool t,.slice a3 n3 c3,.slice a4 n4 c4]) 0 3,.c (some 12) (cV (.int .i64 0)),.v 2 (.int .i64 0)]) (fun p4=>[(2,.int .i64 0),(3,.int .i64 0)]) (fun p4=>?_) (fun p4 W4 T hF hK=>?_)
 ·refine okv ?_
  refine okl ?_
  refine okc (fun W cx=>as_v (unhide C2 _ (cx.G.2.2.1) (cx.G.2.2.2.1))) ?_
  refine okv ?_
  exact ok_nil
 obtain ⟨hS,hG⟩:=SymF.fg hS hF
 clear hF
 refine wp_ret ?_
 exact sym_end hS hK (.int .i64 0) [] [] (by kernel_rfl) (by kernel_rfl) ⟨rfl,hS.fr⟩
theorem zans {w:World} {base:Nat} {e:Ending} {m:Nat} (h:Ans w base e m) (hn:¬ Over m):∃ a n cap,e = .returned (.tuple #[.agg #[.slice a n cap],.int .i64 0])∧Mine w base a n cap m:=by
 rcases h with h|h
 ·exact h
 ·exact absurd h.2 hn
theorem wmul_ok (p:Nat) {x y:Nat} (ho:¬ Over (x * y)):WTwo 118 p x y (x * y):=fun W a n c a' n' c' hR h h'=>
 zmul W p a a' n n' c c' x y _ hR h h' (hide fun W a n c a' n' c' h h'=>(mul_any a a' n n' c c' x y W h h').mono fun _ _ ⟨k,hb⟩=>⟨zans k ho,hb⟩)
theorem wgcd_ok (p x y:Nat):WTwo 73 p x y (Nat.gcd x y):=fun W a n c a' n' c' hR h h'=>
 zgcd W p a a' n n' c c' x y _ hR h h' (hide fun W a n c a' n' c' h h'=>gcd_any a a' n n' c c' x y W h h')
theorem wdiv_ok (p x:Nat) {y:Nat} (hy:0 < y):WDiv p x y (x / y) (x % y):=fun W a n c a' n' c' hR h h'=>
 zdiv W p a a' n n' c c' x y _ _ hR h h' (hide fun W a n c a' n' c' h h'=>(div_any a a' n n' c c' x y W h h').mono fun _ _ ⟨k,hb⟩=>⟨by
  rcases k with ⟨k,_⟩|⟨_,k⟩
  ·omega
  ·exact k,hb⟩)
theorem wcmp_ok (p x y:Nat):WCmp p x y (cmpI x y):=fun W a n c a' n' c' hR h h'=>
 zcmp W p a a' n n' c c' x y _ hR h h' (hide fun W a n c a' n' c' h h'=>cmpN_any a a' n n' c c' x y W h h')
theorem wover_ok (p x:Nat) {y:Nat} (hy:0 < y):WTwo 75 p x y (x / y):=fun W a n c a' n' c' hR h h'=>
 zover W p a a' n n' c c' x y _ _ hR h h' (hide (wdiv_ok p x hy))
theorem wfr_ok (p:Nat) (s:Bool) (x y:Nat):WFr p s x y (s && !decide (x = 0)):=fun W a n c a' n' c' hR h h'=>by
 cases s
 ·exact zfra_f W p a a' n n' c c' x y hR h h'
 ·exact zfra_t W p a a' n n' c c' x y _ hR h h' rfl
def aFr (t:Bool) (a:Array Value):Value:=match a.getD 2 undef,a.getD 3 undef with
 | .agg x,.agg y=>.tuple #[.agg #[.bool t,x.getD 0 undef,y.getD 0 undef],.int .i64 0]
 | _,_=>undef
theorem zmake_is (w:World) (s t:Bool) (a1 a2:Option Addr) (n1 n2 c1 c2 x y g u v:Nat) (h1:Num w a1 n1 x) (h2:Num w a2 n2 y) (hy:y≠0) (HG:∀ p:Nat,Hid (WTwo 73 p x y g)) (HA:∀ p:Nat,Hid (WTwo 75 p x g u)) (HB:∀ p:Nat,Hid (WTwo 75 p y g v)) (HF:∀ p:Nat,Hid (WFr p s u v t)) :
  Calls Tryz.prog 37 #[.bool s,.agg #[.slice a1 n1 c1],.agg #[.slice a2 n2 c2]] w fun en w'=>(∃ A N C A' N' C',en = .returned (.tuple #[.agg #[.bool t,.slice A N C,.slice A' N' C'],.int .i64 0])∧Mine w' w.heap.size A N C u∧Mine w' w.heap.size A' N' C' v)∧Below w.heap.size w w':=by
 refine calls_sym Tryz.func37 rfl (by kernel_rfl) fun T hK=>?_
 replace hK:Kn T _ [(0,.bool s),(1,.agg #[.slice a1 n1 c1]),(2,.agg #[.slice a2 n2 c2])]:=hK
 have hS:=Fb.begin w
 have hG:GsAt [gN a1 n1 x,gN a2 n2 y] w:=⟨h1,h2,trivial⟩
 refine wq hS hG hK (fun p1=>[.n 4 #[.slice a1 n1 c1] 28,.n 5 #[.slice a2 n2 c2] 28,.n 6 #[.bool false,.slice none 0 0,.slice none 0 0] 41,.v 7 (.int .i64 0)]) (fun p1=>[(0,.bool s),(4,pT (p1 0).N 0),(5,pT (p1 1).N 0),(6,pT (p1 2).N 0),(7,.int .i64 0)]) (fun p1=>?_) (fun p1 W1 T hF hK=>?_)
 ·iterate 3 refine okn ?_
  refine okv ?_
  exact ok_nil
 replace hS:=SymF.fc hS hF [1000,1001,1002] [⟨(p1 0).N,#[.slice a1 n1 c1],28,true⟩,⟨(p1 1).N,#[.slice a2 n2 c2],28,true⟩,⟨(p1 2).N,#[.bool false,.slice none 0 0,.slice none 0 0],41,true⟩]
 replace hG:=hF.gx
 clear hF
 refine wp_seq ?_
 refine wq hS hG hK (fun p2=>[.l 12 (.agg #[.slice a1 n1 c1]) 0 0,.c (some 13) (cV (.int .i64 0)),.v 8 (.int .i64 0)]) (fun p2=>[(0,.bool s),(4,pT (p1 0).N 0),(5,pT (p1 1).N 0),(6,pT (p1 2).N 0),(7,.int .i64 0),(8,.int .i64 0)]) (fun p2=>?_) (fun p2 W2 T hF hK=>?_)
 ·refine okl ?_
  refine okc (fun W cx=>as_v (check_num _ _ c1 _ _ (cx.G.1))) ?_
  refine okv ?_
  exact ok_nil
 obtain ⟨hS,hG⟩:=SymF.fg hS hF
 clear hF
 refine wq hS hG hK (fun p3=>[.v 14 (.int .i64 0),.v 15 (.bool false)]) (fun p3=>[(0,.bool s),(4,pT (p1 0).N 0),(5,pT (p1 1).N 0),(6,pT (p1 2).N 0),(7,.int .i64 0),(8,.int .i64 0),(15,.bool false)]) (fun p3=>?_) (fun p3 W3 T hF hK=>?_)
 ·iterate 2 refine okv ?_
  exact ok_nil
 obtain ⟨hS,hG⟩:=SymF.fg hS hF
 clear hF
 refine wp_cond_false (hK.ew 15) (wp_skip ?_)
 refine then_n (wp_seq ?_)
 refine wq hS hG hK (fun p4=>[.l 18 (.agg #[.slice a2 n2 c2]) 1 0,.c (some 19) (cV (.int .i64 0)),.v 9 (.int .i64 0)]) (fun p4=>[(0,.bool s),(4,pT (p1 0).N 0),(5,pT (p1 1).N 0),(6,pT (p1 2).N 0),(7,.int .i64 0),(8,.int .i64 0),(9,.int .i64 0),(15,.bool false)]) (fun p4=>?_) (fun p4 W4 T hF hK=>?_)
 ·refine okl ?_
  refine okc (fun W cx=>as_v (check_num _ _ c2 _ _ (cx.G.2.1))) ?_
  refine okv ?_
  exact ok_nil
 obtain ⟨hS,hG⟩:=SymF.fg hS hF
 clear hF
 refine wq hS hG hK (fun p5=>[.v 20 (.int .i64 0),.v 21 (.bool false)]) (fun p5=>[(0,.bool s),(4,pT (p1 0).N 0),(5,pT (p1 1).N 0),(6,pT (p1 2).N 0),(7,.int .i64 0),(8,.int .i64 0),(9,.int .i64 0),(15,.bool false),(21,.bool false)]) (fun p5=>?_) (fun p5 W5 T hF hK=>?_)
 ·iterate 2 refine okv ?_
  exact ok_nil
 obtain ⟨hS,hG⟩:=SymF.fg hS hF
 clear hF
 refine wp_cond_false (hK.ew 21) (wp_skip ?_)
 refine then_n (wp_seq ?_)
 refine wq hS hG hK (fun p6=>[.l 24 (.agg #[.slice a2 n2 c2]) 1 0,.c (some 25) (cV (.bool false))]) (fun p6=>[(0,.bool s),(4,pT (p1 0).N 0),(5,pT (p1 1).N 0),(6,pT (p1 2).N 0),(7,.int .i64 0),(8,.int .i64 0),(9,.int .i64 0),(15,.bool false),(21,.bool false),(25,.bool false)]) (fun p6=>?_) (fun p6 W6 T hF hK=>?_)
 ·refine okl ?_
  refine okc (fun W cx=>as_v (znought a2 _ c2 _ _ ((Num.zdec (cx.G.2.1)).trans (decide_eq_false hy)))) ?_
  exact ok_nil
 obtain ⟨hS,hG⟩:=SymF.fg hS hF
 clear hF
 refine wp_cond_false (hK.ew 25) (wp_skip (then_n ?_))
 refine wq hS hG hK (fun p7=>[.n 10 #[.int .i64 0] 121]) (fun p7=>[(0,.bool s),(4,pT (p1 0).N 0),(5,pT (p1 1).N 0),(6,pT (p1 2).N 0),(7,.int .i64 0),(8,.int .i64 0),(9,.int .i64 0),(10,pT (p7 0).N 0),(15,.bool false),(21,.bool false),(25,.bool false)]) (fun p7=>?_) (fun p7 W7 T hF hK=>?_)
 ·refine okn ?_
  exact ok_nil
 replace hS:=SymF.fc hS hF [0,1,2,1000] [⟨(p1 0).N,#[.slice a1 n1 c1],28,true⟩,⟨(p1 1).N,#[.slice a2 n2 c2],28,true⟩,⟨(p1 2).N,#[.bool false,.slice none 0 0,.slice none 0 0],41,true⟩,⟨(p7 0).N,#[.int .i64 0],121,true⟩]
 replace hG:=hF.gx
 clear hF
 refine wq hS hG hK (fun p8=>[.l 27 (.agg #[.slice a1 n1 c1]) 0 0,.l 28 (.agg #[.slice a2 n2 c2]) 1 0,.c (some 29) (cN W7.heap.size g),.n 11 #[.slice none 0 0] 28,.p 1003 0 [.slice (p8 2).A (p8 2).N (p8 2).C]]) (fun p8=>[(0,.bool s),(4,pT (p1 0).N 0),(5,pT (p1 1).N 0),(6,pT (p1 2).N 0),(7,.int .i64 0),(8,.int .i64 0),(9,.int .i64 0),(10,pT (p7 0).N 0),(11,pT (p8 3).N 0),(15,.bool false),(21,.bool false),(25,.bool false)]) (fun p8=>?_) (fun p8 W8 T hF hK=>?_)
 ·iterate 2 refine okl ?_
  refine okc (fun W cx=>as_n cx.hb (unhide (HG (p7 0).N) _ _ _ c1 _ _ c2 ⟨_,_,cx.B 3 _ rfl (by kernel_rfl) (by kernel_rfl),rfl⟩ (cx.G.1) (cx.G.2.1))) ?_
  refine okn ?_
  refine okp ?_
  exact ok_nil
 replace hS:=SymF.fc hS hF [0,1,2,3,1003] [⟨(p1 0).N,#[.slice a1 n1 c1],28,true⟩,⟨(p1 1).N,#[.slice a2 n2 c2],28,true⟩,⟨(p1 2).N,#[.bool false,.slice none 0 0,.slice none 0 0],41,true⟩,⟨(p7 0).N,#[.int .i64 0],121,true⟩,⟨(p8 3).N,#[.slice (p8 2).A (p8 2).N (p8 2).C],28,true⟩]
 replace hG:GsAt (gM W7.heap.size (p8 2).A (p8 2).N (p8 2).C g :: _) W8:=⟨hF.fx 2,hF.gx⟩
 clear hF
 have z8:=hS.fr.size
 refine wq hS hG hK (fun p9=>[.v 30 (.bool s),.l 31 (.agg #[.slice a1 n1 c1]) 0 0,.l 32 (.agg #[.slice (p8 2).A (p8 2).N (p8 2).C]) 4 0,.c (some 33) (cN W8.heap.size u),.l 34 (.agg #[.slice a2 n2 c2]) 1 0,.l 35 (.agg #[.slice (p8 2).A (p8 2).N (p8 2).C]) 4 0,.c (some 36) (cN W8.heap.size v),.u 37 (.tuple #[.agg #[.bool t,.slice (p9 3).A (p9 3).N (p9 3).C,.slice (p9 6).A (p9 6).N (p9 6).C],.int .i64 0]) (aFr t),.v 38 (.agg #[.bool t,.slice (p9 3).A (p9 3).N (p9 3).C,.slice (p9 6).A (p9 6).N (p9 6).C]),.v 39 (.int .i64 0),.p 2 0 [.bool t,.slice (p9 3).A (p9 3).N (p9 3).C,.slice (p9 6).A (p9 6).N (p9 6).C],.v 7 (.int .i64 0)]) (fun p9=>[(6,pT (p1 2).N 0),(7,.int .i64 0),(8,.int .i64 0),(9,.int .i64 0),(15,.bool false),(21,.bool false),(25,.bool false)]) (fun p9=>?_) (fun p9 W9 T hF hK=>?_)
 ·refine okv ?_
  iterate 2 refine okl ?_
  refine okc (fun W cx=>as_n cx.hb (unhide (HA (p7 0).N) _ _ _ c1 _ _ (p8 2).C ⟨_,_,cx.B 3 _ rfl (by kernel_rfl) (by kernel_rfl),rfl⟩ (cx.G.2.1) (Mine.num cx.G.1))) ?_
  iterate 2 refine okl ?_
  refine okc (fun W cx=>as_n cx.hb (unhide (HB (p7 0).N) _ _ _ c2 _ _ (p8 2).C ⟨_,_,cx.B 3 _ rfl (by kernel_rfl) (by kernel_rfl),rfl⟩ (cx.G.2.2.1) (Mine.num cx.G.1))) ?_
  refine oku (fun W cx=>unhide (HF (p7 0).N) _ _ _ (p9 3).C _ _ (p9 6).C ⟨_,_,cx.B 3 _ rfl (by kernel_rfl) (by kernel_rfl),rfl⟩ (Mine.num (cx.F 3 (by kernel_rfl))) (Mine.num (cx.F 6 (by kernel_rfl)))) ?_
  iterate 2 refine okv ?_
  refine okp ?_
  refine okv ?_
  exact ok_nil
 replace hS:=SymF.fc hS hF [2] [⟨(p1 2).N,#[.bool t,.slice (p9 3).A (p9 3).N (p9 3).C,.slice (p9 6).A (p9 6).N (p9 6).C],41,true⟩]
 replace hG:GsAt (gM W8.heap.size (p9 3).A (p9 3).N (p9 3).C u :: gM W8.heap.size (p9 6).A (p9 6).N (p9 6).C v :: _) W9:=⟨hF.fx 3,hF.fx 6,hF.gx⟩
 clear hF
 refine wp_ret ?_
 exact sym_end hS hK (.tuple #[.agg #[.bool t,.slice (p9 3).A (p9 3).N (p9 3).C,.slice (p9 6).A (p9 6).N (p9 6).C],.int .i64 0]) [(0,0,3)] [.bool t,.slice (p9 3).A (p9 3).N (p9 3).C,.slice (p9 6).A (p9 6).N (p9 6).C] (by kernel_rfl) (by kernel_rfl) ⟨⟨_,_,_,_,_,_,rfl,Mine.mono hG.1 z8,Mine.mono hG.2.1 z8⟩,hS.fr⟩
theorem ymake_any (s:Bool) (a1 a2:Option Addr) (n1 n2 c1 c2 x y:Nat) (w:World) (h1:Num w a1 n1 x) (h2:Num w a2 n2 y) (hy:0 < y) :
  Calls Tryz.prog 37 #[.bool s,.agg #[.slice a1 n1 c1],.agg #[.slice a2 n2 c2]] w fun en w'=>(∃ A N C A' N' C',en = .returned (.tuple #[.agg #[.bool (s && !decide (x / Nat.gcd x y = 0)),.slice A N C,.slice A' N' C'],.int .i64 0])∧Mine w' w.heap.size A N C (x / Nat.gcd x y)∧Mine w' w.heap.size A' N' C' (y / Nat.gcd x y))∧Below w.heap.size w w':=by
 have hg:0 < Nat.gcd x y:=Nat.gcd_pos_of_pos_right x hy
 exact zmake_is w s _ a1 a2 n1 n2 c1 c2 x y _ _ _ h1 h2 (by omega) (fun p=>hide (wgcd_ok p x y)) (fun p=>hide (wover_ok p x hg)) (fun p=>hide (wover_ok p y hg)) (fun p=>hide (wfr_ok p s _ _))
theorem ysign_t (w:World)   :
  Calls Tryz.prog 90 #[.bool true] w fun en w'=>en = .returned (.int .i64 1)∧Below w.heap.size w w':=by
 refine calls_sym Tryz.func90 rfl (by kernel_rfl) fun T hK=>?_
 replace hK:Kn T _ [(0,.bool true)]:=hK
 have hS:=Fb.begin w
 have hG:GsAt [] w:=trivial
 refine wq hS hG hK (fun p1=>[.v 2 (.int .i64 0)]) (fun p1=>[(0,.bool true),(2,.int .i64 0)]) (fun p1=>?_) (fun p1 W1 T hF hK=>?_)
 ·refine okv ?_
  exact ok_nil
 replace hS:=SymF.fc hS hF [] []
 replace hG:=hF.gx
 clear hF
 refine wp_seq ?_
 refine wq hS hG hK (fun p2=>[.v 3 (.bool true)]) (fun p2=>[(2,.int .i64 0),(3,.bool true)]) (fun p2=>?_) (fun p2 W2 T hF hK=>?_)
 ·refine okv ?_
  exact ok_nil
 obtain ⟨hS,hG⟩:=SymF.fg hS hF
 clear hF
 refine wp_cond_true (hK.ew 3) ?_
 refine wq hS hG hK (fun p3=>[.v 2 (.int .i64 1)]) (fun p3=>[(2,.int .i64 1),(3,.bool true)]) (fun p3=>?_) (fun p3 W3 T hF hK=>?_)
 ·refine okv ?_
  exact ok_nil
 obtain ⟨hS,hG⟩:=SymF.fg hS hF
 clear hF
 refine wp_ret ?_
 refine then_r ?_
 exact sym_end hS hK (.int .i64 1) [] [] (by kernel_rfl) (by kernel_rfl) ⟨rfl,hS.fr⟩
theorem ysign_f (w:World)   :
  Calls Tryz.prog 90 #[.bool false] w fun en w'=>en = .returned (.int .i64 (-1))∧Below w.heap.size w w':=by
 refine calls_sym Tryz.func90 rfl (by kernel_rfl) fun T hK=>?_
 replace hK:Kn T _ [(0,.bool false)]:=hK
 have hS:=Fb.begin w
 have hG:GsAt [] w:=trivial
 refine wq hS hG hK (fun p1=>[.v 2 (.int .i64 0)]) (fun p1=>[(0,.bool false),(2,.int .i64 0)]) (fun p1=>?_) (fun p1 W1 T hF hK=>?_)
 ·refine okv ?_
  exact ok_nil
 replace hS:=SymF.fc hS hF [] []
 replace hG:=hF.gx
 clear hF
 refine wp_seq ?_
 refine wq hS hG hK (fun p2=>[.v 3 (.bool false)]) (fun p2=>[(2,.int .i64 0),(3,.bool false)]) (fun p2=>?_) (fun p2 W2 T hF hK=>?_)
 ·refine okv ?_
  exact ok_nil
 obtain ⟨hS,hG⟩:=SymF.fg hS hF
 clear hF
 refine wp_cond_false (hK.ew 3) (wp_skip (then_n ?_))
 refine wq hS hG hK (fun p3=>[.v 2 (.int .i64 (-1))]) (fun p3=>[(2,.int .i64 (-1)),(3,.bool false)]) (fun p3=>?_) (fun p3 W3 T hF hK=>?_)
 ·refine okv ?_
  exact ok_nil
 obtain ⟨hS,hG⟩:=SymF.fg hS hF
 clear hF
 refine wp_ret ?_
 exact sym_end hS hK (.int .i64 (-1)) [] [] (by kernel_rfl) (by kernel_rfl) ⟨rfl,hS.fr⟩
theorem ywcmp {x y:Nat} {r:Int} (hr:r = cmpI x y) (p:Nat):WCmp p x y r:=by
 subst hr; exact wcmp_ok p x y
theorem farther_t (s t:Bool) (a1 a2 a3 a4:Option Addr) (n1 n2 n3 n4 c1 c2 c3 c4:Nat) (m1 m2 m3 m4:Nat) (ho:¬ Over (m1 * m4)) (ho2:¬ Over (m3 * m2)) (hc:decide ((0:Int) < cmpI (m1 * m4) (m3 * m2)) = true) (w:World) (h1:Num w a1 n1 m1) (h2:Num w a2 n2 m2) (h3:Num w a3 n3 m3) (h4:Num w a4 n4 m4) :
  Calls Tryz.prog 91 #[.agg #[.bool s,.slice a1 n1 c1,.slice a2 n2 c2,.bool t,.slice a3 n3 c3,.slice a4 n4 c4]] w fun en w'=>en = .returned (.bool true)∧Below w.heap.size w w':=by
 obtain ⟨r,hr⟩:∃ r,r = cmpI (m1 * m4) (m3 * m2):=⟨_,rfl⟩
 rw [← hr] at hc
 refine calls_sym Tryz.func91 rfl (by kernel_rfl) fun T hK=>?_
 replace hK:Kn T _ [(0,.agg #[.bool s,.slice a1 n1 c1,.slice a2 n2 c2,.bool t,.slice a3 n3 c3,.slice a4 n4 c4])]:=hK
 have hS:=Fb.begin w
 have hG:GsAt [gN a1 n1 m1,gN a2 n2 m2,gN a3 n3 m3,gN a4 n4 m4] w:=⟨h1,h2,h3,h4,trivial⟩
 refine wq hS hG hK (fun p1=>[.n 1 #[.bool s,.slice a1 n1 c1,.slice a2 n2 c2,.bool t,.slice a3 n3 c3,.slice a4 n4 c4] 135,.v 2 (.bool false)]) (fun p1=>[(1,pT (p1 0).N 0),(2,.bool false)]) (fun p1=>?_) (fun p1 W1 T hF hK=>?_)
 ·refine okn ?_
  refine okv ?_
  exact ok_nil
 replace hS:=SymF.fc hS hF [1000] [⟨(p1 0).N,#[.bool s,.slice a1 n1 c1,.slice a2 n2 c2,.bool t,.slice a3 n3 c3,.slice a4 n4 c4],135,true⟩]
 replace hG:=hF.gx
 clear hF
 refine wq hS hG hK (fun p2=>[.n 3 #[.int .i64 0] 121]) (fun p2=>[(1,pT (p1 0).N 0),(2,.bool false),(3,pT (p2 0).N 0)]) (fun p2=>?_) (fun p2 W2 T hF hK=>?_)
 ·refine okn ?_
  exact ok_nil
 replace hS:=SymF.fc hS hF [0,1000] [⟨(p1 0).N,#[.bool s,.slice a1 n1 c1,.slice a2 n2 c2,.bool t,.slice a3 n3 c3,.slice a4 n4 c4],135,true⟩,⟨(p2 0).N,#[.int .i64 0],121,true⟩]
 replace hG:=hF.gx
 clear hF
 refine wq hS hG hK (fun p3=>[.v 6 (pT (p1 0).N 0),.v 7 (pT (p1 0).N 1),.l 8 (.agg #[.slice a1 n1 c1]) 0 1,.v 9 (pT (p1 0).N 3),.v 10 (pT (p1 0).N 5),.l 11 (.agg #[.slice a4 n4 c4]) 0 5,.c (some 12) (cN W2.heap.size (m1 * m4)),.n 4 #[.slice none 0 0] 28,.p 1007 0 [.slice (p3 6).A (p3 6).N (p3 6).C]]) (fun p3=>[(1,pT (p1 0).N 0),(2,.bool false),(3,pT (p2 0).N 0),(4,pT (p3 7).N 0)]) (fun p3=>?_) (fun p3 W3 T hF hK=>?_)
 ·iterate 2 refine okv ?_
  refine okl ?_
  iterate 2 refine okv ?_
  refine okl ?_
  refine okc (fun W cx=>as_n cx.hb (wmul_ok (p2 0).N ho _ _ _ c1 _ _ c4 ⟨_,_,cx.B 1 _ rfl (by kernel_rfl) (by kernel_rfl),rfl⟩ (cx.G.1) (cx.G.2.2.2.1))) ?_
  refine okn ?_
  refine okp ?_
  exact ok_nil
 replace hS:=SymF.fc hS hF [0,1,1007] [⟨(p1 0).N,#[.bool s,.slice a1 n1 c1,.slice a2 n2 c2,.bool t,.slice a3 n3 c3,.slice a4 n4 c4],135,true⟩,⟨(p2 0).N,#[.int .i64 0],121,true⟩,⟨(p3 7).N,#[.slice (p3 6).A (p3 6).N (p3 6).C],28,true⟩]
 replace hG:GsAt (gM W2.heap.size (p3 6).A (p3 6).N (p3 6).C (m1 * m4) :: _) W3:=⟨hF.fx 6,hF.gx⟩
 clear hF
 refine wq hS hG hK (fun p4=>[.v 13 (pT (p1 0).N 3),.v 14 (pT (p1 0).N 4),.l 15 (.agg #[.slice a3 n3 c3]) 0 4,.v 16 (pT (p1 0).N 0),.v 17 (pT (p1 0).N 2),.l 18 (.agg #[.slice a2 n2 c2]) 0 2,.c (some 19) (cN W3.heap.size (m3 * m2)),.n 5 #[.slice none 0 0] 28,.p 1007 0 [.slice (p4 6).A (p4 6).N (p4 6).C]]) (fun p4=>[(1,pT (p1 0).N 0),(2,.bool false),(3,pT (p2 0).N 0),(4,pT (p3 7).N 0),(5,pT (p4 7).N 0)]) (fun p4=>?_) (fun p4 W4 T hF hK=>?_)
 ·iterate 2 refine okv ?_
  refine okl ?_
  iterate 2 refine okv ?_
  refine okl ?_
  refine okc (fun W cx=>as_n cx.hb (wmul_ok (p2 0).N ho2 _ _ _ c3 _ _ c2 ⟨_,_,cx.B 1 _ rfl (by kernel_rfl) (by kernel_rfl),rfl⟩ (cx.G.2.2.2.1) (cx.G.2.2.1))) ?_
  refine okn ?_
  refine okp ?_
  exact ok_nil
 replace hS:=SymF.fc hS hF [0,1,2,1007] [⟨(p1 0).N,#[.bool s,.slice a1 n1 c1,.slice a2 n2 c2,.bool t,.slice a3 n3 c3,.slice a4 n4 c4],135,true⟩,⟨(p2 0).N,#[.int .i64 0],121,true⟩,⟨(p3 7).N,#[.slice (p3 6).A (p3 6).N (p3 6).C],28,true⟩,⟨(p4 7).N,#[.slice (p4 6).A (p4 6).N (p4 6).C],28,true⟩]
 replace hG:GsAt (gM W3.heap.size (p4 6).A (p4 6).N (p4 6).C (m3 * m2) :: _) W4:=⟨hF.fx 6,hF.gx⟩
 clear hF
 refine wp_seq ?_
 refine wq hS hG hK (fun p5=>[.v 20 (pT (p2 0).N 0),.v 21 (pT (p2 0).N 0),.l 22 (.int .i64 0) 1 0,.v 23 (.bool true)]) (fun p5=>[(1,pT (p1 0).N 0),(2,.bool false),(3,pT (p2 0).N 0),(4,pT (p3 7).N 0),(5,pT (p4 7).N 0),(23,.bool true)]) (fun p5=>?_) (fun p5 W5 T hF hK=>?_)
 ·iterate 2 refine okv ?_
  refine okl ?_
  refine okv ?_
  exact ok_nil
 obtain ⟨hS,hG⟩:=SymF.fg hS hF
 clear hF
 refine wp_cond_true (hK.ew 23) ?_
 refine wq hS hG hK (fun p6=>[.l 24 (.agg #[.slice (p3 6).A (p3 6).N (p3 6).C]) 2 0,.l 25 (.agg #[.slice (p4 6).A (p4 6).N (p4 6).C]) 3 0,.c (some 26) (cV (.int .i64 r)),.v 27 (.bool true),.v 2 (.bool true)]) (fun p6=>[(1,pT (p1 0).N 0),(2,.bool true)]) (fun p6=>?_) (fun p6 W6 T hF hK=>?_)
 ·iterate 2 refine okl ?_
  refine okc (fun W cx=>as_v (ywcmp hr (p2 0).N _ _ _ (p3 6).C _ _ (p4 6).C ⟨_,_,cx.B 1 _ rfl (by kernel_rfl) (by kernel_rfl),rfl⟩ (Mine.num cx.G.2.1) (Mine.num cx.G.1))) ?_
  refine okvb ((show decide (r > 0) = true from hc)) ?_
  refine okv ?_
  exact ok_nil
 obtain ⟨hS,hG⟩:=SymF.fg hS hF
 clear hF
 refine wp_ret ?_
 refine then_r ?_
 exact sym_end hS hK (.bool true) [] [] (by kernel_rfl) (by kernel_rfl) ⟨rfl,hS.fr⟩
theorem farther_f (s t:Bool) (a1 a2 a3 a4:Option Addr) (n1 n2 n3 n4 c1 c2 c3 c4:Nat) (m1 m2 m3 m4:Nat) (ho:¬ Over (m1 * m4)) (ho2:¬ Over (m3 * m2)) (hc:decide ((0:Int) < cmpI (m1 * m4) (m3 * m2)) = false) (w:World) (h1:Num w a1 n1 m1) (h2:Num w a2 n2 m2) (h3:Num w a3 n3 m3) (h4:Num w a4 n4 m4) :
  Calls Tryz.prog 91 #[.agg #[.bool s,.slice a1 n1 c1,.slice a2 n2 c2,.bool t,.slice a3 n3 c3,.slice a4 n4 c4]] w fun en w'=>en = .returned (.bool false)∧Below w.heap.size w w':=by
 obtain ⟨r,hr⟩:∃ r,r = cmpI (m1 * m4) (m3 * m2):=⟨_,rfl⟩
 rw [← hr] at hc
 refine calls_sym Tryz.func91 rfl (by kernel_rfl) fun T hK=>?_
 replace hK:Kn T _ [(0,.agg #[.bool s,.slice a1 n1 c1,.slice a2 n2 c2,.bool t,.slice a3 n3 c3,.slice a4 n4 c4])]:=hK
 have hS:=Fb.begin w
 have hG:GsAt [gN a1 n1 m1,gN a2 n2 m2,gN a3 n3 m3,gN a4 n4 m4] w:=⟨h1,h2,h3,h4,trivial⟩
 refine wq hS hG hK (fun p1=>[.n 1 #[.bool s,.slice a1 n1 c1,.slice a2 n2 c2,.bool t,.slice a3 n3 c3,.slice a4 n4 c4] 135,.v 2 (.bool false)]) (fun p1=>[(1,pT (p1 0).N 0),(2,.bool false)]) (fun p1=>?_) (fun p1 W1 T hF hK=>?_)
 ·refine okn ?_
  refine okv ?_
  exact ok_nil
 replace hS:=SymF.fc hS hF [1000] [⟨(p1 0).N,#[.bool s,.slice a1 n1 c1,.slice a2 n2 c2,.bool t,.slice a3 n3 c3,.slice a4 n4 c4],135,true⟩]
 replace hG:=hF.gx
 clear hF
 refine wq hS hG hK (fun p2=>[.n 3 #[.int .i64 0] 121]) (fun p2=>[(1,pT (p1 0).N 0),(2,.bool false),(3,pT (p2 0).N 0)]) (fun p2=>?_) (fun p2 W2 T hF hK=>?_)
 ·refine okn ?_
  exact ok_nil
 replace hS:=SymF.fc hS hF [0,1000] [⟨(p1 0).N,#[.bool s,.slice a1 n1 c1,.slice a2 n2 c2,.bool t,.slice a3 n3 c3,.slice a4 n4 c4],135,true⟩,⟨(p2 0).N,#[.int .i64 0],121,true⟩]
 replace hG:=hF.gx
 clear hF
 refine wq hS hG hK (fun p3=>[.v 6 (pT (p1 0).N 0),.v 7 (pT (p1 0).N 1),.l 8 (.agg #[.slice a1 n1 c1]) 0 1,.v 9 (pT (p1 0).N 3),.v 10 (pT (p1 0).N 5),.l 11 (.agg #[.slice a4 n4 c4]) 0 5,.c (some 12) (cN W2.heap.size (m1 * m4)),.n 4 #[.slice none 0 0] 28,.p 1007 0 [.slice (p3 6).A (p3 6).N (p3 6).C]]) (fun p3=>[(1,pT (p1 0).N 0),(2,.bool false),(3,pT (p2 0).N 0),(4,pT (p3 7).N 0)]) (fun p3=>?_) (fun p3 W3 T hF hK=>?_)
 ·iterate 2 refine okv ?_
  refine okl ?_
  iterate 2 refine okv ?_
  refine okl ?_
  refine okc (fun W cx=>as_n cx.hb (wmul_ok (p2 0).N ho _ _ _ c1 _ _ c4 ⟨_,_,cx.B 1 _ rfl (by kernel_rfl) (by kernel_rfl),rfl⟩ (cx.G.1) (cx.G.2.2.2.1))) ?_
  refine okn ?_
  refine okp ?_
  exact ok_nil
 replace hS:=SymF.fc hS hF [0,1,1007] [⟨(p1 0).N,#[.bool s,.slice a1 n1 c1,.slice a2 n2 c2,.bool t,.slice a3 n3 c3,.slice a4 n4 c4],135,true⟩,⟨(p2 0).N,#[.int .i64 0],121,true⟩,⟨(p3 7).N,#[.slice (p3 6).A (p3 6).N (p3 6).C],28,true⟩]
 replace hG:GsAt (gM W2.heap.size (p3 6).A (p3 6).N (p3 6).C (m1 * m4) :: _) W3:=⟨hF.fx 6,hF.gx⟩
 clear hF
 refine wq hS hG hK (fun p4=>[.v 13 (pT (p1 0).N 3),.v 14 (pT (p1 0).N 4),.l 15 (.agg #[.slice a3 n3 c3]) 0 4,.v 16 (pT (p1 0).N 0),.v 17 (pT (p1 0).N 2),.l 18 (.agg #[.slice a2 n2 c2]) 0 2,.c (some 19) (cN W3.heap.size (m3 * m2)),.n 5 #[.slice none 0 0] 28,.p 1007 0 [.slice (p4 6).A (p4 6).N (p4 6).C]]) (fun p4=>[(1,pT (p1 0).N 0),(2,.bool false),(3,pT (p2 0).N 0),(4,pT (p3 7).N 0),(5,pT (p4 7).N 0)]) (fun p4=>?_) (fun p4 W4 T hF hK=>?_)
 ·iterate 2 refine okv ?_
  refine okl ?_
  iterate 2 refine okv ?_
  refine okl ?_
  refine okc (fun W cx=>as_n cx.hb (wmul_ok (p2 0).N ho2 _ _ _ c3 _ _ c2 ⟨_,_,cx.B 1 _ rfl (by kernel_rfl) (by kernel_rfl),rfl⟩ (cx.G.2.2.2.1) (cx.G.2.2.1))) ?_
  refine okn ?_
  refine okp ?_
  exact ok_nil
 replace hS:=SymF.fc hS hF [0,1,2,1007] [⟨(p1 0).N,#[.bool s,.slice a1 n1 c1,.slice a2 n2 c2,.bool t,.slice a3 n3 c3,.slice a4 n4 c4],135,true⟩,⟨(p2 0).N,#[.int .i64 0],121,true⟩,⟨(p3 7).N,#[.slice (p3 6).A (p3 6).N (p3 6).C],28,true⟩,⟨(p4 7).N,#[.slice (p4 6).A (p4 6).N (p4 6).C],28,true⟩]
 replace hG:GsAt (gM W3.heap.size (p4 6).A (p4 6).N (p4 6).C (m3 * m2) :: _) W4:=⟨hF.fx 6,hF.gx⟩
 clear hF
 refine wp_seq ?_
 refine wq hS hG hK (fun p5=>[.v 20 (pT (p2 0).N 0),.v 21 (pT (p2 0).N 0),.l 22 (.int .i64 0) 1 0,.v 23 (.bool true)]) (fun p5=>[(1,pT (p1 0).N 0),(2,.bool false),(3,pT (p2 0).N 0),(4,pT (p3 7).N 0),(5,pT (p4 7).N 0),(23,.bool true)]) (fun p5=>?_) (fun p5 W5 T hF hK=>?_)
 ·iterate 2 refine okv ?_
  refine okl ?_
  refine okv ?_
  exact ok_nil
 obtain ⟨hS,hG⟩:=SymF.fg hS hF
 clear hF
 refine wp_cond_true (hK.ew 23) ?_
 refine wq hS hG hK (fun p6=>[.l 24 (.agg #[.slice (p3 6).A (p3 6).N (p3 6).C]) 2 0,.l 25 (.agg #[.slice (p4 6).A (p4 6).N (p4 6).C]) 3 0,.c (some 26) (cV (.int .i64 r)),.v 27 (.bool false),.v 2 (.bool false)]) (fun p6=>[(1,pT (p1 0).N 0),(2,.bool false)]) (fun p6=>?_) (fun p6 W6 T hF hK=>?_)
 ·iterate 2 refine okl ?_
  refine okc (fun W cx=>as_v (ywcmp hr (p2 0).N _ _ _ (p3 6).C _ _ (p4 6).C ⟨_,_,cx.B 1 _ rfl (by kernel_rfl) (by kernel_rfl),rfl⟩ (Mine.num cx.G.2.1) (Mine.num cx.G.1))) ?_
  refine okvb ((show decide (r > 0) = false from hc)) ?_
  refine okv ?_
  exact ok_nil
 obtain ⟨hS,hG⟩:=SymF.fg hS hF
 clear hF
 refine wp_ret ?_
 refine then_r ?_
 exact sym_end hS hK (.bool false) [] [] (by kernel_rfl) (by kernel_rfl) ⟨rfl,hS.fr⟩
theorem ysign (b:Bool) (w:World):Calls Tryz.prog 90 #[.bool b] w fun en w'=>en = .returned (.int .i64 (if b then 1 else -1))∧Below w.heap.size w w':=by
 cases b
 ·exact ysign_f w
 ·exact ysign_t w
theorem rcmp_same (s t:Bool) (a1 a2 a3 a4:Option Addr) (n1 n2 n3 n4 c1 c2 c3 c4:Nat) (w:World) (HC:Hid (∀ W:World,Below w.heap.size w W→Calls Tryz.prog 88 #[.agg #[.bool s,.slice a1 n1 c1,.slice a2 n2 c2,.bool t,.slice a3 n3 c3,.slice a4 n4 c4]] W fun e w'=>e = .returned (.int .i64 0)∧Below W.heap.size W w')) (HS:Hid (∀ W:World,Below w.heap.size w W→Calls Tryz.prog 89 #[.agg #[.bool s,.slice a1 n1 c1,.slice a2 n2 c2,.bool t,.slice a3 n3 c3,.slice a4 n4 c4]] W fun e w'=>e = .returned (.bool true)∧Below W.heap.size W w')) :
  Calls Tryz.prog 54 #[.agg #[.bool s,.slice a1 n1 c1,.slice a2 n2 c2],.agg #[.bool t,.slice a3 n3 c3,.slice a4 n4 c4]] w fun en w'=>en = .returned (.tuple #[.int .i64 0,.int .i64 0])∧Below w.heap.size w w':=by
 refine calls_sym Tryz.func54 rfl (by kernel_rfl) fun T hK=>?_
 replace hK:Kn T _ [(0,.agg #[.bool s,.slice a1 n1 c1,.slice a2 n2 c2]),(1,.agg #[.bool t,.slice a3 n3 c3,.slice a4 n4 c4])]:=hK
 have hS:=Fb.begin w
 have hG:GsAt [] w:=trivial
 refine wq hS hG hK (fun p1=>[.n 2 #[.bool s,.slice a1 n1 c1,.slice a2 n2 c2] 41,.n 3 #[.bool t,.slice a3 n3 c3,.slice a4 n4 c4] 41,.v 4 (.int .i64 0),.v 5 (.int .i64 0)]) (fun p1=>[(2,pT (p1 0).N 0),(3,pT (p1 1).N 0),(4,.int .i64 0),(5,.int .i64 0)]) (fun p1=>?_) (fun p1 W1 T hF hK=>?_)
 ·iterate 2 refine okn ?_
  iterate 2 refine okv ?_
  exact ok_nil
 replace hS:=SymF.fc hS hF [1000,1001] [⟨(p1 0).N,#[.bool s,.slice a1 n1 c1,.slice a2 n2 c2],41,true⟩,⟨(p1 1).N,#[.bool t,.slice a3 n3 c3,.slice a4 n4 c4],41,true⟩]
 replace hG:=hF.gx
 clear hF
 refine wq hS hG hK (fun p2=>[.l 8 (.agg #[.bool s,.slice a1 n1 c1,.slice a2 n2 c2]) 0 0,.l 9 (.agg #[.bool t,.slice a3 n3 c3,.slice a4 n4 c4]) 1 0,.v 10 (.agg #[.bool s,.slice a1 n1 c1,.slice a2 n2 c2,.bool t,.slice a3 n3 c3,.slice a4 n4 c4]),.n 6 #[.bool false,.slice none 0 0,.slice none 0 0,.bool false,.slice none 0 0,.slice none 0 0] 135,.p 1003 0 [.bool s,.slice a1 n1 c1,.slice a2 n2 c2,.bool t,.slice a3 n3 c3,.slice a4 n4 c4]]) (fun p2=>[(2,pT (p1 0).N 0),(3,pT (p1 1).N 0),(4,.int .i64 0),(5,.int .i64 0),(6,pT (p2 3).N 0)]) (fun p2=>?_) (fun p2 W2 T hF hK=>?_)
 ·iterate 2 refine okl ?_
  refine okv ?_
  refine okn ?_
  refine okp ?_
  exact ok_nil
 replace hS:=SymF.fc hS hF [0,1,1003] [⟨(p1 0).N,#[.bool s,.slice a1 n1 c1,.slice a2 n2 c2],41,true⟩,⟨(p1 1).N,#[.bool t,.slice a3 n3 c3,.slice a4 n4 c4],41,true⟩,⟨(p2 3).N,#[.bool s,.slice a1 n1 c1,.slice a2 n2 c2,.bool t,.slice a3 n3 c3,.slice a4 n4 c4],135,true⟩]
 replace hG:=hF.gx
 clear hF
 refine wp_seq ?_
 refine wq hS hG hK (fun p3=>[.l 11 (.agg #[.bool s,.slice a1 n1 c1,.slice a2 n2 c2,.bool t,.slice a3 n3 c3,.slice a4 n4 c4]) 2 0,.c (some 12) (cV (.int .i64 0)),.v 7 (.int .i64 0)]) (fun p3=>[(2,pT (p1 0).N 0),(3,pT (p1 1).N 0),(4,.int .i64 0),(5,.int .i64 0),(6,pT (p2 3).N 0),(7,.int .i64 0)]) (fun p3=>?_) (fun p3 W3 T hF hK=>?_)
 ·refine okl ?_
  refine okc (fun W cx=>as_v (unhide HC _ cx.fr)) ?_
  refine okv ?_
  exact ok_nil
 obtain ⟨hS,hG⟩:=SymF.fg hS hF
 clear hF
 refine wq hS hG hK (fun p4=>[.v 13 (.int .i64 0),.v 14 (.bool false)]) (fun p4=>[(2,pT (p1 0).N 0),(3,pT (p1 1).N 0),(4,.int .i64 0),(5,.int .i64 0),(6,pT (p2 3).N 0),(7,.int .i64 0),(14,.bool false)]) (fun p4=>?_) (fun p4 W4 T hF hK=>?_)
 ·iterate 2 refine okv ?_
  exact ok_nil
 obtain ⟨hS,hG⟩:=SymF.fg hS hF
 clear hF
 refine wp_cond_false (hK.ew 14) (wp_skip ?_)
 refine then_n (wp_seq ?_)
 refine wq hS hG hK (fun p5=>[.l 16 (.agg #[.bool s,.slice a1 n1 c1,.slice a2 n2 c2,.bool t,.slice a3 n3 c3,.slice a4 n4 c4]) 2 0,.c (some 17) (cV (.bool true))]) (fun p5=>[(2,pT (p1 0).N 0),(3,pT (p1 1).N 0),(4,.int .i64 0),(5,.int .i64 0),(6,pT (p2 3).N 0),(7,.int .i64 0),(17,.bool true)]) (fun p5=>?_) (fun p5 W5 T hF hK=>?_)
 ·refine okl ?_
  refine okc (fun W cx=>as_v (unhide HS _ cx.fr)) ?_
  exact ok_nil
 obtain ⟨hS,hG⟩:=SymF.fg hS hF
 clear hF
 refine wp_cond_true (hK.ew 17) ?_
 refine wq hS hG hK (fun p6=>[.v 4 (.int .i64 0),.v 5 (.int .i64 0)]) (fun p6=>[(2,pT (p1 0).N 0),(3,pT (p1 1).N 0),(4,.int .i64 0),(5,.int .i64 0),(6,pT (p2 3).N 0),(7,.int .i64 0)]) (fun p6=>?_) (fun p6 W6 T hF hK=>?_)
 ·iterate 2 refine okv ?_
  exact ok_nil
 obtain ⟨hS,hG⟩:=SymF.fg hS hF
 clear hF
 refine wp_ret ?_
 refine then_r ?_
 exact sym_end hS hK (.tuple #[.int .i64 0,.int .i64 0]) [] [] (by kernel_rfl) (by kernel_rfl) ⟨rfl,hS.fr⟩
theorem ycmp_ne (s t:Bool) (a1 a2 a3 a4:Option Addr) (n1 n2 n3 n4 c1 c2 c3 c4:Nat) (w:World) (HC:Hid (∀ W:World,Below w.heap.size w W→Calls Tryz.prog 88 #[.agg #[.bool s,.slice a1 n1 c1,.slice a2 n2 c2,.bool t,.slice a3 n3 c3,.slice a4 n4 c4]] W fun e w'=>e = .returned (.int .i64 0)∧Below W.heap.size W w')) (HS:Hid (∀ W:World,Below w.heap.size w W→Calls Tryz.prog 89 #[.agg #[.bool s,.slice a1 n1 c1,.slice a2 n2 c2,.bool t,.slice a3 n3 c3,.slice a4 n4 c4]] W fun e w'=>e = .returned (.bool false)∧Below W.heap.size W w')) (hst:(s != t) = true) :
  Calls Tryz.prog 54 #[.agg #[.bool s,.slice a1 n1 c1,.slice a2 n2 c2],.agg #[.bool t,.slice a3 n3 c3,.slice a4 n4 c4]] w fun en w'=>en = .returned (.tuple #[.int .i64 (if t then 1 else -1),.int .i64 0])∧Below w.heap.size w w':=by
 refine calls_sym Tryz.func54 rfl (by kernel_rfl) fun T hK=>?_
 replace hK:Kn T _ [(0,.agg #[.bool s,.slice a1 n1 c1,.slice a2 n2 c2]),(1,.agg #[.bool t,.slice a3 n3 c3,.slice a4 n4 c4])]:=hK
 have hS:=Fb.begin w
 have hG:GsAt [] w:=trivial
 refine wq hS hG hK (fun p1=>[.n 2 #[.bool s,.slice a1 n1 c1,.slice a2 n2 c2] 41,.n 3 #[.bool t,.slice a3 n3 c3,.slice a4 n4 c4] 41,.v 4 (.int .i64 0),.v 5 (.int .i64 0)]) (fun p1=>[(2,pT (p1 0).N 0),(3,pT (p1 1).N 0),(4,.int .i64 0),(5,.int .i64 0)]) (fun p1=>?_) (fun p1 W1 T hF hK=>?_)
 ·iterate 2 refine okn ?_
  iterate 2 refine okv ?_
  exact ok_nil
 replace hS:=SymF.fc hS hF [1000,1001] [⟨(p1 0).N,#[.bool s,.slice a1 n1 c1,.slice a2 n2 c2],41,true⟩,⟨(p1 1).N,#[.bool t,.slice a3 n3 c3,.slice a4 n4 c4],41,true⟩]
 replace hG:=hF.gx
 clear hF
 refine wq hS hG hK (fun p2=>[.l 8 (.agg #[.bool s,.slice a1 n1 c1,.slice a2 n2 c2]) 0 0,.l 9 (.agg #[.bool t,.slice a3 n3 c3,.slice a4 n4 c4]) 1 0,.v 10 (.agg #[.bool s,.slice a1 n1 c1,.slice a2 n2 c2,.bool t,.slice a3 n3 c3,.slice a4 n4 c4]),.n 6 #[.bool false,.slice none 0 0,.slice none 0 0,.bool false,.slice none 0 0,.slice none 0 0] 135,.p 1003 0 [.bool s,.slice a1 n1 c1,.slice a2 n2 c2,.bool t,.slice a3 n3 c3,.slice a4 n4 c4]]) (fun p2=>[(2,pT (p1 0).N 0),(3,pT (p1 1).N 0),(4,.int .i64 0),(5,.int .i64 0),(6,pT (p2 3).N 0)]) (fun p2=>?_) (fun p2 W2 T hF hK=>?_)
 ·iterate 2 refine okl ?_
  refine okv ?_
  refine okn ?_
  refine okp ?_
  exact ok_nil
 replace hS:=SymF.fc hS hF [0,1,1003] [⟨(p1 0).N,#[.bool s,.slice a1 n1 c1,.slice a2 n2 c2],41,true⟩,⟨(p1 1).N,#[.bool t,.slice a3 n3 c3,.slice a4 n4 c4],41,true⟩,⟨(p2 3).N,#[.bool s,.slice a1 n1 c1,.slice a2 n2 c2,.bool t,.slice a3 n3 c3,.slice a4 n4 c4],135,true⟩]
 replace hG:=hF.gx
 clear hF
 refine wp_seq ?_
 refine wq hS hG hK (fun p3=>[.l 11 (.agg #[.bool s,.slice a1 n1 c1,.slice a2 n2 c2,.bool t,.slice a3 n3 c3,.slice a4 n4 c4]) 2 0,.c (some 12) (cV (.int .i64 0)),.v 7 (.int .i64 0)]) (fun p3=>[(2,pT (p1 0).N 0),(3,pT (p1 1).N 0),(4,.int .i64 0),(5,.int .i64 0),(6,pT (p2 3).N 0),(7,.int .i64 0)]) (fun p3=>?_) (fun p3 W3 T hF hK=>?_)
 ·refine okl ?_
  refine okc (fun W cx=>as_v (unhide HC _ cx.fr)) ?_
  refine okv ?_
  exact ok_nil
 obtain ⟨hS,hG⟩:=SymF.fg hS hF
 clear hF
 refine wq hS hG hK (fun p4=>[.v 13 (.int .i64 0),.v 14 (.bool false)]) (fun p4=>[(2,pT (p1 0).N 0),(3,pT (p1 1).N 0),(4,.int .i64 0),(5,.int .i64 0),(6,pT (p2 3).N 0),(7,.int .i64 0),(14,.bool false)]) (fun p4=>?_) (fun p4 W4 T hF hK=>?_)
 ·iterate 2 refine okv ?_
  exact ok_nil
 obtain ⟨hS,hG⟩:=SymF.fg hS hF
 clear hF
 refine wp_cond_false (hK.ew 14) (wp_skip ?_)
 refine then_n (wp_seq ?_)
 refine wq hS hG hK (fun p5=>[.l 16 (.agg #[.bool s,.slice a1 n1 c1,.slice a2 n2 c2,.bool t,.slice a3 n3 c3,.slice a4 n4 c4]) 2 0,.c (some 17) (cV (.bool false))]) (fun p5=>[(2,pT (p1 0).N 0),(3,pT (p1 1).N 0),(4,.int .i64 0),(5,.int .i64 0),(6,pT (p2 3).N 0),(7,.int .i64 0),(17,.bool false)]) (fun p5=>?_) (fun p5 W5 T hF hK=>?_)
 ·refine okl ?_
  refine okc (fun W cx=>as_v (unhide HS _ cx.fr)) ?_
  exact ok_nil
 obtain ⟨hS,hG⟩:=SymF.fg hS hF
 clear hF
 refine wp_cond_false (hK.ew 17) (wp_skip ?_)
 refine then_n (wp_seq ?_)
 refine wq hS hG hK (fun p6=>[.v 18 (pT (p1 0).N 0),.l 19 (.bool s) 0 0,.v 20 (pT (p1 1).N 0),.l 21 (.bool t) 1 0,.v 22 (.bool true)]) (fun p6=>[(2,pT (p1 0).N 0),(3,pT (p1 1).N 0),(4,.int .i64 0),(5,.int .i64 0),(6,pT (p2 3).N 0),(7,.int .i64 0),(22,.bool true)]) (fun p6=>?_) (fun p6 W6 T hF hK=>?_)
 ·refine okv ?_
  refine okl ?_
  refine okv ?_
  refine okl ?_
  refine okvb (hst) ?_
  exact ok_nil
 obtain ⟨hS,hG⟩:=SymF.fg hS hF
 clear hF
 refine wp_cond_true (hK.ew 22) ?_
 refine wq hS hG hK (fun p7=>[.v 23 (pT (p1 1).N 0),.l 24 (.bool t) 1 0,.c (some 25) (cV (.int .i64 (if t then 1 else -1))),.v 4 (.int .i64 (if t then 1 else -1)),.v 5 (.int .i64 0)]) (fun p7=>[(2,pT (p1 0).N 0),(4,.int .i64 (if t then 1 else -1)),(5,.int .i64 0),(6,pT (p2 3).N 0),(7,.int .i64 0)]) (fun p7=>?_) (fun p7 W7 T hF hK=>?_)
 ·refine okv ?_
  refine okl ?_
  refine okc (fun W cx=>as_v (ysign t _)) ?_
  iterate 2 refine okv ?_
  exact ok_nil
 obtain ⟨hS,hG⟩:=SymF.fg hS hF
 clear hF
 refine wp_ret ?_
 refine then_r ?_
 exact sym_end hS hK (.tuple #[.int .i64 (if t then 1 else -1),.int .i64 0]) [] [] (by kernel_rfl) (by kernel_rfl) ⟨rfl,hS.fr⟩
theorem ycmp_far (s f:Bool) (a1 a2 a3 a4:Option Addr) (n1 n2 n3 n4 c1 c2 c3 c4:Nat) (w:World) (HC:Hid (∀ W:World,Below w.heap.size w W→Calls Tryz.prog 88 #[.agg #[.bool s,.slice a1 n1 c1,.slice a2 n2 c2,.bool s,.slice a3 n3 c3,.slice a4 n4 c4]] W fun e w'=>e = .returned (.int .i64 0)∧Below W.heap.size W w')) (HS:Hid (∀ W:World,Below w.heap.size w W→Calls Tryz.prog 89 #[.agg #[.bool s,.slice a1 n1 c1,.slice a2 n2 c2,.bool s,.slice a3 n3 c3,.slice a4 n4 c4]] W fun e w'=>e = .returned (.bool false)∧Below W.heap.size W w')) (HF:Hid (∀ W:World,Below w.heap.size w W→Calls Tryz.prog 91 #[.agg #[.bool s,.slice a1 n1 c1,.slice a2 n2 c2,.bool s,.slice a3 n3 c3,.slice a4 n4 c4]] W fun e w'=>e = .returned (.bool f)∧Below W.heap.size W w')) :
  Calls Tryz.prog 54 #[.agg #[.bool s,.slice a1 n1 c1,.slice a2 n2 c2],.agg #[.bool s,.slice a3 n3 c3,.slice a4 n4 c4]] w fun en w'=>en = .returned (.tuple #[.int .i64 (if (f != s) then 1 else -1),.int .i64 0])∧Below w.heap.size w w':=by
 refine calls_sym Tryz.func54 rfl (by kernel_rfl) fun T hK=>?_
 replace hK:Kn T _ [(0,.agg #[.bool s,.slice a1 n1 c1,.slice a2 n2 c2]),(1,.agg #[.bool s,.slice a3 n3 c3,.slice a4 n4 c4])]:=hK
 have hS:=Fb.begin w
 have hG:GsAt [] w:=trivial
 refine wq hS hG hK (fun p1=>[.n 2 #[.bool s,.slice a1 n1 c1,.slice a2 n2 c2] 41,.n 3 #[.bool s,.slice a3 n3 c3,.slice a4 n4 c4] 41,.v 4 (.int .i64 0),.v 5 (.int .i64 0)]) (fun p1=>[(2,pT (p1 0).N 0),(3,pT (p1 1).N 0),(4,.int .i64 0),(5,.int .i64 0)]) (fun p1=>?_) (fun p1 W1 T hF hK=>?_)
 ·iterate 2 refine okn ?_
  iterate 2 refine okv ?_
  exact ok_nil
 replace hS:=SymF.fc hS hF [1000,1001] [⟨(p1 0).N,#[.bool s,.slice a1 n1 c1,.slice a2 n2 c2],41,true⟩,⟨(p1 1).N,#[.bool s,.slice a3 n3 c3,.slice a4 n4 c4],41,true⟩]
 replace hG:=hF.gx
 clear hF
 refine wq hS hG hK (fun p2=>[.l 8 (.agg #[.bool s,.slice a1 n1 c1,.slice a2 n2 c2]) 0 0,.l 9 (.agg #[.bool s,.slice a3 n3 c3,.slice a4 n4 c4]) 1 0,.v 10 (.agg #[.bool s,.slice a1 n1 c1,.slice a2 n2 c2,.bool s,.slice a3 n3 c3,.slice a4 n4 c4]),.n 6 #[.bool false,.slice none 0 0,.slice none 0 0,.bool false,.slice none 0 0,.slice none 0 0] 135,.p 1003 0 [.bool s,.slice a1 n1 c1,.slice a2 n2 c2,.bool s,.slice a3 n3 c3,.slice a4 n4 c4]]) (fun p2=>[(2,pT (p1 0).N 0),(3,pT (p1 1).N 0),(4,.int .i64 0),(5,.int .i64 0),(6,pT (p2 3).N 0)]) (fun p2=>?_) (fun p2 W2 T hF hK=>?_)
 ·iterate 2 refine okl ?_
  refine okv ?_
  refine okn ?_
  refine okp ?_
  exact ok_nil
 replace hS:=SymF.fc hS hF [0,1,1003] [⟨(p1 0).N,#[.bool s,.slice a1 n1 c1,.slice a2 n2 c2],41,true⟩,⟨(p1 1).N,#[.bool s,.slice a3 n3 c3,.slice a4 n4 c4],41,true⟩,⟨(p2 3).N,#[.bool s,.slice a1 n1 c1,.slice a2 n2 c2,.bool s,.slice a3 n3 c3,.slice a4 n4 c4],135,true⟩]
 replace hG:=hF.gx
 clear hF
 refine wp_seq ?_
 refine wq hS hG hK (fun p3=>[.l 11 (.agg #[.bool s,.slice a1 n1 c1,.slice a2 n2 c2,.bool s,.slice a3 n3 c3,.slice a4 n4 c4]) 2 0,.c (some 12) (cV (.int .i64 0)),.v 7 (.int .i64 0)]) (fun p3=>[(2,pT (p1 0).N 0),(3,pT (p1 1).N 0),(4,.int .i64 0),(5,.int .i64 0),(6,pT (p2 3).N 0),(7,.int .i64 0)]) (fun p3=>?_) (fun p3 W3 T hF hK=>?_)
 ·refine okl ?_
  refine okc (fun W cx=>as_v (unhide HC _ cx.fr)) ?_
  refine okv ?_
  exact ok_nil
 obtain ⟨hS,hG⟩:=SymF.fg hS hF
 clear hF
 refine wq hS hG hK (fun p4=>[.v 13 (.int .i64 0),.v 14 (.bool false)]) (fun p4=>[(2,pT (p1 0).N 0),(3,pT (p1 1).N 0),(4,.int .i64 0),(5,.int .i64 0),(6,pT (p2 3).N 0),(7,.int .i64 0),(14,.bool false)]) (fun p4=>?_) (fun p4 W4 T hF hK=>?_)
 ·iterate 2 refine okv ?_
  exact ok_nil
 obtain ⟨hS,hG⟩:=SymF.fg hS hF
 clear hF
 refine wp_cond_false (hK.ew 14) (wp_skip ?_)
 refine then_n (wp_seq ?_)
 refine wq hS hG hK (fun p5=>[.l 16 (.agg #[.bool s,.slice a1 n1 c1,.slice a2 n2 c2,.bool s,.slice a3 n3 c3,.slice a4 n4 c4]) 2 0,.c (some 17) (cV (.bool false))]) (fun p5=>[(2,pT (p1 0).N 0),(3,pT (p1 1).N 0),(4,.int .i64 0),(5,.int .i64 0),(6,pT (p2 3).N 0),(7,.int .i64 0),(17,.bool false)]) (fun p5=>?_) (fun p5 W5 T hF hK=>?_)
 ·refine okl ?_
  refine okc (fun W cx=>as_v (unhide HS _ cx.fr)) ?_
  exact ok_nil
 obtain ⟨hS,hG⟩:=SymF.fg hS hF
 clear hF
 refine wp_cond_false (hK.ew 17) (wp_skip ?_)
 refine then_n (wp_seq ?_)
 refine wq hS hG hK (fun p6=>[.v 18 (pT (p1 0).N 0),.l 19 (.bool s) 0 0,.v 20 (pT (p1 1).N 0),.l 21 (.bool s) 1 0,.v 22 (.bool false)]) (fun p6=>[(2,pT (p1 0).N 0),(3,pT (p1 1).N 0),(4,.int .i64 0),(5,.int .i64 0),(6,pT (p2 3).N 0),(7,.int .i64 0),(22,.bool false)]) (fun p6=>?_) (fun p6 W6 T hF hK=>?_)
 ·refine okv ?_
  refine okl ?_
  refine okv ?_
  refine okl ?_
  refine okvb (bne_self_eq_false s) ?_
  exact ok_nil
 obtain ⟨hS,hG⟩:=SymF.fg hS hF
 clear hF
 refine wp_cond_false (hK.ew 22) (wp_skip (then_n ?_))
 refine wq hS hG hK (fun p7=>[.l 26 (.agg #[.bool s,.slice a1 n1 c1,.slice a2 n2 c2,.bool s,.slice a3 n3 c3,.slice a4 n4 c4]) 2 0,.c (some 27) (cV (.bool f)),.v 28 (pT (p1 0).N 0),.l 29 (.bool s) 0 0,.v 30 (.bool (f != s)),.c (some 31) (cV (.int .i64 (if (f != s) then 1 else -1))),.v 4 (.int .i64 (if (f != s) then 1 else -1)),.v 5 (.int .i64 0)]) (fun p7=>[(3,pT (p1 1).N 0),(4,.int .i64 (if (f != s) then 1 else -1)),(5,.int .i64 0),(7,.int .i64 0)]) (fun p7=>?_) (fun p7 W7 T hF hK=>?_)
 ·refine okl ?_
  refine okc (fun W cx=>as_v (unhide HF _ cx.fr)) ?_
  refine okv ?_
  refine okl ?_
  refine okv ?_
  refine okc (fun W cx=>as_v (ysign (f != s) _)) ?_
  iterate 2 refine okv ?_
  exact ok_nil
 obtain ⟨hS,hG⟩:=SymF.fg hS hF
 clear hF
 refine wp_ret ?_
 exact sym_end hS hK (.tuple #[.int .i64 (if (f != s) then 1 else -1),.int .i64 0]) [] [] (by kernel_rfl) (by kernel_rfl) ⟨rfl,hS.fr⟩
theorem rcmp_ft (a1 a2 a3 a4:Option Addr) (n1 n2 n3 n4 c1 c2 c3 c4:Nat) (w:World) (HC:Hid (∀ W:World,Below w.heap.size w W→Calls Tryz.prog 88 #[.agg #[.bool false,.slice a1 n1 c1,.slice a2 n2 c2,.bool true,.slice a3 n3 c3,.slice a4 n4 c4]] W fun e w'=>e = .returned (.int .i64 0)∧Below W.heap.size W w')) (HS:Hid (∀ W:World,Below w.heap.size w W→Calls Tryz.prog 89 #[.agg #[.bool false,.slice a1 n1 c1,.slice a2 n2 c2,.bool true,.slice a3 n3 c3,.slice a4 n4 c4]] W fun e w'=>e = .returned (.bool false)∧Below W.heap.size W w')):Calls Tryz.prog 54 #[.agg #[.bool false,.slice a1 n1 c1,.slice a2 n2 c2],.agg #[.bool true,.slice a3 n3 c3,.slice a4 n4 c4]] w fun en w'=>en = .returned (.tuple #[.int .i64 1,.int .i64 0])∧Below w.heap.size w w':=ycmp_ne false true a1 a2 a3 a4 n1 n2 n3 n4 c1 c2 c3 c4 w HC HS rfl
theorem rcmp_tf (a1 a2 a3 a4:Option Addr) (n1 n2 n3 n4 c1 c2 c3 c4:Nat) (w:World) (HC:Hid (∀ W:World,Below w.heap.size w W→Calls Tryz.prog 88 #[.agg #[.bool true,.slice a1 n1 c1,.slice a2 n2 c2,.bool false,.slice a3 n3 c3,.slice a4 n4 c4]] W fun e w'=>e = .returned (.int .i64 0)∧Below W.heap.size W w')) (HS:Hid (∀ W:World,Below w.heap.size w W→Calls Tryz.prog 89 #[.agg #[.bool true,.slice a1 n1 c1,.slice a2 n2 c2,.bool false,.slice a3 n3 c3,.slice a4 n4 c4]] W fun e w'=>e = .returned (.bool false)∧Below W.heap.size W w')):Calls Tryz.prog 54 #[.agg #[.bool true,.slice a1 n1 c1,.slice a2 n2 c2],.agg #[.bool false,.slice a3 n3 c3,.slice a4 n4 c4]] w fun en w'=>en = .returned (.tuple #[.int .i64 (-1),.int .i64 0])∧Below w.heap.size w w':=ycmp_ne true false a1 a2 a3 a4 n1 n2 n3 n4 c1 c2 c3 c4 w HC HS rfl
theorem rcmp_fft (a1 a2 a3 a4:Option Addr) (n1 n2 n3 n4 c1 c2 c3 c4:Nat) (w:World) (HC:Hid (∀ W:World,Below w.heap.size w W→Calls Tryz.prog 88 #[.agg #[.bool false,.slice a1 n1 c1,.slice a2 n2 c2,.bool false,.slice a3 n3 c3,.slice a4 n4 c4]] W fun e w'=>e = .returned (.int .i64 0)∧Below W.heap.size W w')) (HS:Hid (∀ W:World,Below w.heap.size w W→Calls Tryz.prog 89 #[.agg #[.bool false,.slice a1 n1 c1,.slice a2 n2 c2,.bool false,.slice a3 n3 c3,.slice a4 n4 c4]] W fun e w'=>e = .returned (.bool false)∧Below W.heap.size W w')) (HF:Hid (∀ W:World,Below w.heap.size w W→Calls Tryz.prog 91 #[.agg #[.bool false,.slice a1 n1 c1,.slice a2 n2 c2,.bool false,.slice a3 n3 c3,.slice a4 n4 c4]] W fun e w'=>e = .returned (.bool true)∧Below W.heap.size W w')):Calls Tryz.prog 54 #[.agg #[.bool false,.slice a1 n1 c1,.slice a2 n2 c2],.agg #[.bool false,.slice a3 n3 c3,.slice a4 n4 c4]] w fun en w'=>en = .returned (.tuple #[.int .i64 1,.int .i64 0])∧Below w.heap.size w w':=ycmp_far false true a1 a2 a3 a4 n1 n2 n3 n4 c1 c2 c3 c4 w HC HS HF
theorem rcmp_fff (a1 a2 a3 a4:Option Addr) (n1 n2 n3 n4 c1 c2 c3 c4:Nat) (w:World) (HC:Hid (∀ W:World,Below w.heap.size w W→Calls Tryz.prog 88 #[.agg #[.bool false,.slice a1 n1 c1,.slice a2 n2 c2,.bool false,.slice a3 n3 c3,.slice a4 n4 c4]] W fun e w'=>e = .returned (.int .i64 0)∧Below W.heap.size W w')) (HS:Hid (∀ W:World,Below w.heap.size w W→Calls Tryz.prog 89 #[.agg #[.bool false,.slice a1 n1 c1,.slice a2 n2 c2,.bool false,.slice a3 n3 c3,.slice a4 n4 c4]] W fun e w'=>e = .returned (.bool false)∧Below W.heap.size W w')) (HF:Hid (∀ W:World,Below w.heap.size w W→Calls Tryz.prog 91 #[.agg #[.bool false,.slice a1 n1 c1,.slice a2 n2 c2,.bool false,.slice a3 n3 c3,.slice a4 n4 c4]] W fun e w'=>e = .returned (.bool false)∧Below W.heap.size W w')):Calls Tryz.prog 54 #[.agg #[.bool false,.slice a1 n1 c1,.slice a2 n2 c2],.agg #[.bool false,.slice a3 n3 c3,.slice a4 n4 c4]] w fun en w'=>en = .returned (.tuple #[.int .i64 (-1),.int .i64 0])∧Below w.heap.size w w':=ycmp_far false false a1 a2 a3 a4 n1 n2 n3 n4 c1 c2 c3 c4 w HC HS HF
theorem rcmp_ttt (a1 a2 a3 a4:Option Addr) (n1 n2 n3 n4 c1 c2 c3 c4:Nat) (w:World) (HC:Hid (∀ W:World,Below w.heap.size w W→Calls Tryz.prog 88 #[.agg #[.bool true,.slice a1 n1 c1,.slice a2 n2 c2,.bool true,.slice a3 n3 c3,.slice a4 n4 c4]] W fun e w'=>e = .returned (.int .i64 0)∧Below W.heap.size W w')) (HS:Hid (∀ W:World,Below w.heap.size w W→Calls Tryz.prog 89 #[.agg #[.bool true,.slice a1 n1 c1,.slice a2 n2 c2,.bool true,.slice a3 n3 c3,.slice a4 n4 c4]] W fun e w'=>e = .returned (.bool false)∧Below W.heap.size W w')) (HF:Hid (∀ W:World,Below w.heap.size w W→Calls Tryz.prog 91 #[.agg #[.bool true,.slice a1 n1 c1,.slice a2 n2 c2,.bool true,.slice a3 n3 c3,.slice a4 n4 c4]] W fun e w'=>e = .returned (.bool true)∧Below W.heap.size W w')):Calls Tryz.prog 54 #[.agg #[.bool true,.slice a1 n1 c1,.slice a2 n2 c2],.agg #[.bool true,.slice a3 n3 c3,.slice a4 n4 c4]] w fun en w'=>en = .returned (.tuple #[.int .i64 (-1),.int .i64 0])∧Below w.heap.size w w':=ycmp_far true true a1 a2 a3 a4 n1 n2 n3 n4 c1 c2 c3 c4 w HC HS HF
theorem rcmp_ttf (a1 a2 a3 a4:Option Addr) (n1 n2 n3 n4 c1 c2 c3 c4:Nat) (w:World) (HC:Hid (∀ W:World,Below w.heap.size w W→Calls Tryz.prog 88 #[.agg #[.bool true,.slice a1 n1 c1,.slice a2 n2 c2,.bool true,.slice a3 n3 c3,.slice a4 n4 c4]] W fun e w'=>e = .returned (.int .i64 0)∧Below W.heap.size W w')) (HS:Hid (∀ W:World,Below w.heap.size w W→Calls Tryz.prog 89 #[.agg #[.bool true,.slice a1 n1 c1,.slice a2 n2 c2,.bool true,.slice a3 n3 c3,.slice a4 n4 c4]] W fun e w'=>e = .returned (.bool false)∧Below W.heap.size W w')) (HF:Hid (∀ W:World,Below w.heap.size w W→Calls Tryz.prog 91 #[.agg #[.bool true,.slice a1 n1 c1,.slice a2 n2 c2,.bool true,.slice a3 n3 c3,.slice a4 n4 c4]] W fun e w'=>e = .returned (.bool false)∧Below W.heap.size W w')):Calls Tryz.prog 54 #[.agg #[.bool true,.slice a1 n1 c1,.slice a2 n2 c2],.agg #[.bool true,.slice a3 n3 c3,.slice a4 n4 c4]] w fun en w'=>en = .returned (.tuple #[.int .i64 1,.int .i64 0])∧Below w.heap.size w w':=ycmp_far true false a1 a2 a3 a4 n1 n2 n3 n4 c1 c2 c3 c4 w HC HS HF
end Go.Proofs.YteafdlblemdclaaGreatDoor
