/- Of what RatioBackRow stands on: TnRun0. -/
import Derived.Test.YtcfccblpcngeaaaGreatPah
import Derived.Test.YtcfccblpcngeaaaGreatPao
import Derived.Test.YtcfccblpcngeaaaGreatPax
namespace Go.Proofs.YtcfccblpcngeaaaGreat
open Go.RowKit
set_option maxHeartbeats 1000000
set_option maxRecDepth 20000
theorem setCell_stillz {W:World} {b j:Nat} {cs:Array Value} {t:TypeId} {u:Value} (hb:W.heap[b]? = some (.cells cs t (0,0))) (hc:cs[j]? = some u):W.setCell ⟨b,j,none⟩ u = W:=by
 have he:(W.setCell ⟨b,j,none⟩ u).heap = W.heap:=by
  apply Array.ext_getElem?
  intro k
  by_cases hk:k = b
  ·subst hk
   rw [heap_setCell_same W k j _ _ _ hb,hb]
   congr 2
   apply Array.ext_getElem?
   intro i
   by_cases hi:i = j
   ·subst hi
    obtain ⟨hlt,_⟩:=Array.getElem?_eq_some_iff.1 hc
    rw [hc]; simp [hlt]
   ·rw [Array.getElem?_setIfInBounds_ne (Ne.symm hi)]
  ·rw [heap_setCell_other W _ k u hk]
 have:W.setCell ⟨b,j,none⟩ u = { W with heap:=(W.setCell ⟨b,j,none⟩ u).heap }:=rfl
 rw [this,he]
def Rz (w:World) (p k:Nat):Prop:=∃ cs t,w.heap[p]? = some (.cells cs t (0,0))∧cs[k]? = some (.int .i64 0)
theorem Rz.kept {w w':World} {p k:Nat} (h:Rz w p k) (hb:Below w.heap.size w w'):Rz w' p k:=by
 obtain ⟨cs,t,h1,h2⟩:=h
 exact ⟨cs,t,by rw [hb.block _ (block_lt h1)]; exact h1,h2⟩
theorem Rz.cell {w:World} {p k:Nat} (h:Rz w p k):w.cell? ⟨p,k,none⟩ = some (.int .i64 0)∧w.frozen? ⟨p,k,none⟩ = false:=by
 obtain ⟨cs,t,h1,h2⟩:=h
 exact ⟨by rw [cell_of_row w p k _ _ _ h1]; exact h2,frozen_of_row w p k _ _ h1⟩
theorem Rz.still {w:World} {p k:Nat} (h:Rz w p k):w.setCell ⟨p,k,none⟩ (.int .i64 0) = w:=by
 obtain ⟨cs,t,h1,h2⟩:=h
 exact setCell_stillz h1 h2
theorem keep_z (p k:Nat) (w:World) (h:Rz w p k) :
  Calls Tryz.prog 80 #[.pointer (some ⟨p,k,none⟩),.int .i64 0] w fun en w'=>en = .returned (.tuple #[])∧Below w.heap.size w w':=by
 obtain ⟨h1,h2⟩:=h.cell
 have h3:=h.still
 go_enter Tryz.func80,Tryz.ntmps80
 go_wp2
 go_end0
 exact ⟨rfl,Below.refl _ _⟩
theorem runNat_z (p k:Nat) (a:Option Addr) (n cap:Nat) (w:World) (h:Rz w p k) :
  Calls Tryz.prog 62 #[.pointer (some ⟨p,k,none⟩),.agg #[.slice a n cap],.int .i64 0] w fun e w'=>e = .returned (.agg #[.slice a n cap])∧Below w.heap.size w w':=by
 have H:=hide h
 clear h
 go_enter Tryz.func62,Tryz.ntmps62
 go_wp2_with fail
 refine (keep_z p k _ ((unhide H).kept (Fs.two w _ _ _ _).fr)).mono ?_
 rintro e w1 ⟨rfl,hb1⟩
 have hS:=(Fs.two w _ _ _ _).kept hb1
 obtain ⟨⟨ya,-⟩,⟨yb,-⟩,-⟩:=hS.cells
 have fz0:=hS.frozen (b:=w.heap.size+1) (cs:=#[.slice none 0 0]) (t:=28) (by simp) 0
 go_wp2
 exact bodyPost_ret (v:=.agg #[.slice a n cap]) (by simp [results,Tryz.results62,go_sem,yb]) rfl ⟨rfl,(hS.fr.setCell (by simp <;> omega) _)⟩
theorem runLess_z (p k:Nat) (a:Option Addr) (n cap:Nat) (t:Bool) (w:World) (h:Rz w p k) :
  Calls Tryz.prog 100 #[.pointer (some ⟨p,k,none⟩),.agg #[.slice a n cap],.bool t,.int .i64 0] w fun e w'=>e = .returned (.agg #[.slice a n cap])∧Below w.heap.size w w':=by
 have H:=hide h
 clear h
 go_enter Tryz.func100,Tryz.ntmps100
 go_wp2_with fail
 refine (keep_z p k _ ((unhide H).kept (Fs.two w _ _ _ _).fr)).mono ?_
 rintro e w1 ⟨rfl,hb1⟩
 have hS:=(Fs.two w _ _ _ _).kept hb1
 obtain ⟨⟨ya,-⟩,⟨yb,-⟩,-⟩:=hS.cells
 have fz0:=hS.frozen (b:=w.heap.size+1) (cs:=#[.slice none 0 0]) (t:=28) (by simp) 0
 go_wp2
 exact bodyPost_ret (v:=.agg #[.slice a n cap]) (by simp [results,Tryz.results100,go_sem,yb]) rfl ⟨rfl,(hS.fr.setCell (by simp <;> omega) _)⟩
theorem runInt_z (p k:Nat) (c:Int) (w:World) (h:Rz w p k) :
  Calls Tryz.prog 77 #[.pointer (some ⟨p,k,none⟩),.int .i64 c,.int .i64 0] w fun e w'=>e = .returned (.int .i64 c)∧Below w.heap.size w w':=by
 have H:=hide h
 clear h
 go_enter Tryz.func77,Tryz.ntmps77
 go_wp2_with fail
 refine (keep_z p k _ (unhide H)).mono ?_
 rintro e w1 ⟨rfl,hb1⟩
 have hS:=(Fs.begin w).kept hb1
 go_wp2
 go_ret
 exact ⟨rfl,hS.fr⟩
theorem runNats_z (p k:Nat) (a:Option Addr) (n cap:Nat) (a':Option Addr) (n' cap':Nat) (w:World) (h:Rz w p k) :
  Calls Tryz.prog 60 #[.pointer (some ⟨p,k,none⟩),.agg #[.slice a n cap],.agg #[.slice a' n' cap'],.int .i64 0] w fun e w'=>e = .returned (.tuple #[.agg #[.slice a n cap],.agg #[.slice a' n' cap']])∧Below w.heap.size w w':=by
 have H:=hide h
 clear h
 go_enter Tryz.func60,Tryz.ntmps60
 go_wp2_with fail
 have hS:=(Fs.three w #[.slice a n cap] 28 #[.slice a' n' cap'] 28 #[.slice none 0 0] 28).alloc #[.slice none 0 0] 28
 simp only [World.size_alloc] at hS
 refine (keep_z p k _ ((unhide H).kept hS.fr)).mono ?_
 rintro e w1 ⟨rfl,hb1⟩
 replace hS:=hS.kept hb1
 obtain ⟨⟨ya,-⟩,⟨yb,-⟩,⟨yc,-⟩,⟨yd,-⟩,-⟩:=hS.cells
 have fy0:=hS.frozen (b:=w.heap.size+2) (cs:=#[.slice none 0 0]) (t:=28) (by simp) 0
 have fz0:=hS.frozen (b:=w.heap.size+3) (cs:=#[.slice none 0 0]) (t:=28) (by simp) 0
 go_wp2
 go_region
 go_wp2
 exact bodyPost_ret (v:=.tuple #[.agg #[.slice a n cap],.agg #[.slice a' n' cap']]) (by simp [results,Tryz.results60,go_sem,ya,yd]) rfl ⟨rfl,((hS.fr.setCell (show w.heap.size≤w.heap.size+1+1 by omega) _).setCell (show w.heap.size≤w.heap.size+1+1+1 by omega) _).drew⟩
end Go.Proofs.YtcfccblpcngeaaaGreat
