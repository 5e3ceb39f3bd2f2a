/- Of what DecNearRow stands on: TnRun0. -/
import Derived.Test.YtbblodioaedckaaGreatPab
import Derived.Test.YtbblodioaedckaaGreatPat
import Derived.Test.YtbblodioaedckaaGreatPay
namespace Go.Proofs.YtbblodioaedckaaGreat
open Go.RowKit
set_option maxHeartbeats 400000
theorem setCell_stillz {W:World} {b j:Nat} {cs:Array Value} {t:TypeId} {u:Value} (hb:W.heap[b]? = some (.cells cs t (0,0))) (hc:cs[j]? = some u):W.setCell ⟨b,j,none⟩ u = W:=by
 have he:(W.setCell ⟨b,j,none⟩ u).heap = W.heap:=by
  apply Array.ext_getElem?
  intro k
  by_cases hk:k = b
  ·subst hk
   rw [heap_setCell_same W k j _ _ _ hb,hb]
   congr 2
   apply Array.ext_getElem?
   intro i
   by_cases hi:i = j
   ·subst hi
    obtain ⟨hlt,_⟩:=Array.getElem?_eq_some_iff.1 hc
    rw [hc]; simp [hlt]
   ·rw [Array.getElem?_setIfInBounds_ne (Ne.symm hi)]
  ·rw [heap_setCell_other W _ k u hk]
 have:W.setCell ⟨b,j,none⟩ u = { W with heap:=(W.setCell ⟨b,j,none⟩ u).heap }:=rfl
 rw [this,he]
def Rz (w:World) (p k:Nat):Prop:=∃ cs t,w.heap[p]? = some (.cells cs t (0,0))∧cs[k]? = some (.int .i64 0)
theorem Rz.kept {w w':World} {p k:Nat} (h:Rz w p k) (hb:Below w.heap.size w w'):Rz w' p k:=by
 obtain ⟨cs,t,h1,h2⟩:=h
 exact ⟨cs,t,by rw [hb.block _ (block_lt h1)]; exact h1,h2⟩
theorem Rz.cell {w:World} {p k:Nat} (h:Rz w p k):w.cell? ⟨p,k,none⟩ = some (.int .i64 0)∧w.frozen? ⟨p,k,none⟩ = false:=by
 obtain ⟨cs,t,h1,h2⟩:=h
 exact ⟨by rw [cell_of_row w p k _ _ _ h1]; exact h2,frozen_of_row w p k _ _ h1⟩
theorem Rz.still {w:World} {p k:Nat} (h:Rz w p k):w.setCell ⟨p,k,none⟩ (.int .i64 0) = w:=by
 obtain ⟨cs,t,h1,h2⟩:=h
 exact setCell_stillz h1 h2
theorem keep_z (p k:Nat) (w:World) (h:Rz w p k) :
  Calls Tryz.prog 65 #[.pointer (some ⟨p,k,none⟩),.int .i64 0] w fun en w'=>en = .returned (.tuple #[])∧Below w.heap.size w w':=by
 obtain ⟨h1,h2⟩:=h.cell
 have h3:=h.still
 go_enter Tryz.func65,Tryz.ntmps65
 go_wp2
 go_end0
 exact ⟨rfl,Below.refl _ _⟩
theorem runNat_z (p k:Nat) (a:Option Addr) (n cap:Nat) (w:World) (h:Rz w p k) :
  Calls Tryz.prog 26 #[.pointer (some ⟨p,k,none⟩),.agg #[.slice a n cap],.int .i64 0] w fun e w'=>e = .returned (.agg #[.slice a n cap])∧Below w.heap.size w w':=by
 have H:=hide h
 clear h
 go_enter Tryz.func26,Tryz.ntmps26
 go_wp2_with fail
 refine (keep_z p k _ ((unhide H).kept (Fs.two w _ _ _ _).fr)).mono ?_
 rintro e w1 ⟨rfl,hb1⟩
 have hS:=(Fs.two w _ _ _ _).kept hb1
 obtain ⟨⟨ya,-⟩,⟨yb,-⟩,-⟩:=hS.cells
 have fz0:=hS.frozen (b:=w.heap.size+1) (cs:=#[.slice none 0 0]) (t:=28) (by simp) 0
 go_wp2
 exact bodyPost_ret (v:=.agg #[.slice a n cap]) (by simp [results,Tryz.results26,go_sem,yb]) rfl ⟨rfl,(hS.fr.setCell (by simp <;> omega) _)⟩
end Go.Proofs.YtbblodioaedckaaGreat
