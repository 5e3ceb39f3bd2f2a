/- Of what DigitsNamesRow stands on: ExCheck ExBits ExCmp TnRun0. -/
import Derived.Test.YtplihgoapiiigaaGreatDoorPab
import Derived.Test.YtplihgoapiiigaaGreatDoorPak
import Derived.Test.YtplihgoapiiigaaGreatDoorPal
import Derived.Test.YtplihgoapiiigaaGreatDoorPao
import Derived.Test.YtplihgoapiiigaaGreatDoorPad
import Derived.Test.YtplihgoapiiigaaGreatDoorPai
import Derived.BigQuiet
import Derived.Test.YtplihgoapiiigaaGreatDoorPaf
import Derived.Deep.RegionWith
import Derived.Test.YtplihgoapiiigaaGreatDoorPaw
import Derived.Test.YtplihgoapiiigaaGreatDoorPag
import Derived.Test.YtplihgoapiiigaaGreatDoorPaz
namespace Go.Proofs.YtplihgoapiiigaaGreatDoor
open Go.RowKit
set_option maxHeartbeats 1000000
set_option maxRecDepth 20000
def Far (x:Int):Prop:=x < -1073741824∨1073741824 < x
instance (x:Int):Decidable (Far x):=by unfold Far; infer_instance
theorem isNought_no (a:Option Addr) (n cap:Nat) (hn:0 < n) (w:World)  :
  Calls Tryz.prog 91 #[.agg #[.slice a n cap]] w fun e w'=>e = .returned (.bool false)∧Below w.heap.size w w':=by
 go_enter Tryz.func91,Tryz.ntmps91
 go_wp2
 go_ret
 exact ⟨ret_bool (by simp <;> omega),(Fs.one w _ _).fr⟩
theorem B_le {E F B:Nat} (h:Fo E F) (HB:Hid (B = 2 ^ (E - 1) - 1)):B≤1023:=by
 have h1:=pow_bound (show E - 1≤10 by have:=h.e11; omega)
 rw [unhide HB]; omega
theorem B_two {E F B:Nat} (h:Fo E F) (HB:Hid (B = 2 ^ (E - 1) - 1)):2 ^ E = 2 * B+2∧1≤B:=by
 have h2:=h.e2
 obtain ⟨k,rfl⟩:∃ k,E = k+2:=⟨E - 2,by omega⟩
 have:=unhide HB
 rw [show k+2 - 1 = k+1 from by omega] at this
 have h3:=pow_pos2 k
 rw [Nat.pow_succ] at this ⊢
 rw [Nat.pow_succ]
 omega
theorem Fs.three (w:World) (cs:Array Value) (t:TypeId) (ds:Array Value) (u:TypeId) (es:Array Value) (v:TypeId) :
  Fs w (((w.alloc (.cells cs t)).alloc (.cells ds u)).alloc (.cells es v)) [⟨w.heap.size,cs,t⟩,⟨w.heap.size+1,ds,u⟩,⟨w.heap.size+2,es,v⟩]:=by
 have h:=(((Fs.begin w).alloc cs t).alloc ds u).alloc es v
 simp only [World.size_alloc,Nat.add_assoc] at h
 exact h.sub (by simp)
theorem setCell_stillz {W:World} {b j:Nat} {cs:Array Value} {t:TypeId} {u:Value} (hb:W.heap[b]? = some (.cells cs t (0,0))) (hc:cs[j]? = some u):W.setCell ⟨b,j,none⟩ u = W:=by
 have he:(W.setCell ⟨b,j,none⟩ u).heap = W.heap:=by
  apply Array.ext_getElem?
  intro k
  by_cases hk:k = b
  ·subst hk
   rw [heap_setCell_same W k j _ _ _ hb,hb]
   congr 2
   apply Array.ext_getElem?
   intro i
   by_cases hi:i = j
   ·subst hi
    obtain ⟨hlt,_⟩:=Array.getElem?_eq_some_iff.1 hc
    rw [hc]; simp [hlt]
   ·rw [Array.getElem?_setIfInBounds_ne (Ne.symm hi)]
  ·rw [heap_setCell_other W _ k u hk]
 have:W.setCell ⟨b,j,none⟩ u = { W with heap:=(W.setCell ⟨b,j,none⟩ u).heap }:=rfl
 rw [this,he]
def Rz (w:World) (p k:Nat):Prop:=∃ cs t,w.heap[p]? = some (.cells cs t (0,0))∧cs[k]? = some (.int .i64 0)
theorem Rz.kept {w w':World} {p k:Nat} (h:Rz w p k) (hb:Below w.heap.size w w'):Rz w' p k:=by
 obtain ⟨cs,t,h1,h2⟩:=h
 exact ⟨cs,t,by rw [hb.block _ (block_lt h1)]; exact h1,h2⟩
theorem Rz.cell {w:World} {p k:Nat} (h:Rz w p k):w.cell? ⟨p,k,none⟩ = some (.int .i64 0)∧w.frozen? ⟨p,k,none⟩ = false:=by
 obtain ⟨cs,t,h1,h2⟩:=h
 exact ⟨by rw [cell_of_row w p k _ _ _ h1]; exact h2,frozen_of_row w p k _ _ h1⟩
theorem Rz.still {w:World} {p k:Nat} (h:Rz w p k):w.setCell ⟨p,k,none⟩ (.int .i64 0) = w:=by
 obtain ⟨cs,t,h1,h2⟩:=h
 exact setCell_stillz h1 h2
theorem keep_z (p k:Nat) (w:World) (h:Rz w p k) :
  Calls Tryz.prog 37 #[.pointer (some ⟨p,k,none⟩),.int .i64 0] w fun en w'=>en = .returned (.tuple #[])∧Below w.heap.size w w':=by
 obtain ⟨h1,h2⟩:=h.cell
 have h3:=h.still
 go_enter Tryz.func37,Tryz.ntmps37
 go_wp2
 go_end0
 exact ⟨rfl,Below.refl _ _⟩
theorem runNat_z (p k:Nat) (a:Option Addr) (n cap:Nat) (w:World) (h:Rz w p k) :
  Calls Tryz.prog 32 #[.pointer (some ⟨p,k,none⟩),.agg #[.slice a n cap],.int .i64 0] w fun e w'=>e = .returned (.agg #[.slice a n cap])∧Below w.heap.size w w':=by
 have H:=hide h
 clear h
 go_enter Tryz.func32,Tryz.ntmps32
 go_wp2_with fail
 refine (keep_z p k _ ((unhide H).kept (Fs.two w _ _ _ _).fr)).mono ?_
 rintro e w1 ⟨rfl,hb1⟩
 have hS:=(Fs.two w _ _ _ _).kept hb1
 obtain ⟨⟨ya,-⟩,⟨yb,-⟩,-⟩:=hS.cells
 have fz0:=hS.frozen (b:=w.heap.size+1) (cs:=#[.slice none 0 0]) (t:=42) (by simp) 0
 go_wp2
 exact bodyPost_ret (v:=.agg #[.slice a n cap]) (by simp [results,Tryz.results32,go_sem,yb]) rfl ⟨rfl,(hS.fr.setCell (by simp <;> omega) _)⟩
theorem runInt_z (p k:Nat) (c:Int) (w:World) (h:Rz w p k) :
  Calls Tryz.prog 76 #[.pointer (some ⟨p,k,none⟩),.int .i64 c,.int .i64 0] w fun e w'=>e = .returned (.int .i64 c)∧Below w.heap.size w w':=by
 have H:=hide h
 clear h
 go_enter Tryz.func76,Tryz.ntmps76
 go_wp2_with fail
 refine (keep_z p k _ (unhide H)).mono ?_
 rintro e w1 ⟨rfl,hb1⟩
 have hS:=(Fs.begin w).kept hb1
 go_wp2
 go_ret
 exact ⟨rfl,hS.fr⟩
theorem runNats_z (p k:Nat) (a:Option Addr) (n cap:Nat) (a':Option Addr) (n' cap':Nat) (w:World) (h:Rz w p k) :
  Calls Tryz.prog 74 #[.pointer (some ⟨p,k,none⟩),.agg #[.slice a n cap],.agg #[.slice a' n' cap'],.int .i64 0] w fun e w'=>e = .returned (.tuple #[.agg #[.slice a n cap],.agg #[.slice a' n' cap']])∧Below w.heap.size w w':=by
 have H:=hide h
 clear h
 go_enter Tryz.func74,Tryz.ntmps74
 go_wp2_with fail
 have hS:=(Fs.three w #[.slice a n cap] 42 #[.slice a' n' cap'] 42 #[.slice none 0 0] 42).alloc #[.slice none 0 0] 42
 simp only [World.size_alloc] at hS
 refine (keep_z p k _ ((unhide H).kept hS.fr)).mono ?_
 rintro e w1 ⟨rfl,hb1⟩
 replace hS:=hS.kept hb1
 obtain ⟨⟨ya,-⟩,⟨yb,-⟩,⟨yc,-⟩,⟨yd,-⟩,-⟩:=hS.cells
 have fy0:=hS.frozen (b:=w.heap.size+2) (cs:=#[.slice none 0 0]) (t:=42) (by simp) 0
 have fz0:=hS.frozen (b:=w.heap.size+3) (cs:=#[.slice none 0 0]) (t:=42) (by simp) 0
 go_wp2
 go_region
 go_wp2
 exact bodyPost_ret (v:=.tuple #[.agg #[.slice a n cap],.agg #[.slice a' n' cap']]) (by simp [results,Tryz.results74,go_sem,ya,yd]) rfl ⟨rfl,((hS.fr.setCell (show w.heap.size≤w.heap.size+1+1 by omega) _).setCell (show w.heap.size≤w.heap.size+1+1+1 by omega) _).drew⟩
end Go.Proofs.YtplihgoapiiigaaGreatDoor
