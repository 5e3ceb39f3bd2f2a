/- Of what TurnThereRow stands on: ExLimit ExAddO ExSum NrSum NrRun NrMid. -/
import Derived.Test.YtbgafednekomhaaGreatDoorPba
import Derived.Test.YtbgafednekomhaaGreatDoorPbb
import Derived.Test.YtbgafednekomhaaGreatDoorPaw
import Derived.Test.YtbgafednekomhaaGreatDoorPab
namespace Go.Proofs.YtbgafednekomhaaGreatDoor
open Go.RowKit
set_option maxHeartbeats 400000
def OkD (s:Bool) (m:Nat) (x:Int):Prop:=(m = 0∧s = false∧x = 0)∨(m % 2 = 1∧-1073741824≤x∧x≤1073741824)
theorem mine_none (w:World) (base:Nat):Mine w base none 0 0 0:=⟨[],rfl,Or.inl ⟨rfl,rfl⟩,Pl.wf_nil,Pl.norm_nil,rfl,by omega⟩
def Rn (w:World) (p k:Nat):Prop:=∃ cs t,w.heap[p]? = some (.cells cs t (0,0))∧cs[k]? = some (.int .i64 0)
theorem Rn.kept {w w':World} {p k:Nat} (h:Rn w p k) (hb:Below w.heap.size w w'):Rn w' p k:=by
 obtain ⟨cs,t,h1,h2⟩:=h
 exact ⟨cs,t,by rw [hb.block _ (block_lt h1)]; exact h1,h2⟩
theorem Rn.cell {w:World} {p k:Nat} (h:Rn w p k):w.cell? ⟨p,k,none⟩ = some (.int .i64 0)∧w.frozen? ⟨p,k,none⟩ = false:=by
 obtain ⟨cs,t,h1,h2⟩:=h
 exact ⟨by rw [cell_of_row w p k _ _ _ h1]; exact h2,frozen_of_row w p k _ _ h1⟩
theorem Rn.still {w:World} {p k:Nat} (h:Rn w p k):w.setCell ⟨p,k,none⟩ (.int .i64 0) = w:=by
 obtain ⟨cs,t,h1,h2⟩:=h
 exact setCell_still h1 h2
theorem keep_0 (p k:Nat) (w:World) (h:Rn w p k) :
  Calls Tryz.prog 33 #[.pointer (some ⟨p,k,none⟩),.int .i64 0] w fun en w'=>en = .returned (.tuple #[])∧Below w.heap.size w w':=by
 obtain ⟨h1,h2⟩:=h.cell
 have h3:=h.still
 go_enter Tryz.func33,Tryz.ntmps33
 go_wp2
 go_end0
 exact ⟨rfl,Below.refl _ _⟩
theorem runDyadic_0 (p k:Nat) (s:Bool) (a:Option Addr) (n cap:Nat) (x:Int) (w:World) (h:Rn w p k) :
  Calls Tryz.prog 45 #[.pointer (some ⟨p,k,none⟩),.agg #[.bool s,.slice a n cap,.int .i64 x],.int .i64 0] w fun e w'=>e = .returned (.agg #[.bool s,.slice a n cap,.int .i64 x])∧Below w.heap.size w w':=by
 have H:=hide h
 clear h
 go_enter Tryz.func45,Tryz.ntmps45
 go_wp2_with fail
 refine (keep_0 p k _ ((unhide H).kept (Fs.two w _ _ _ _).fr)).mono ?_
 rintro e w1 ⟨rfl,hb1⟩
 have hS:=(Fs.two w _ _ _ _).kept hb1
 obtain ⟨⟨ya,yb,yc,-⟩,⟨yd,ye,yf,-⟩,-⟩:=hS.cells
 have Q_:=hS.frozen (b:=w.heap.size+1) (cs:=#[.bool false,.slice none 0 0,.int .i64 0]) (t:=42) (by simp)
 have fz0:=Q_ 0
 have fz1:=Q_ 1
 have fz2:=Q_ 2
 clear Q_
 go_wp2
 exact bodyPost_ret (v:=.agg #[.bool s,.slice a n cap,.int .i64 x]) (by simp [results,Tryz.results45,go_sem,yd,ye,yf]) rfl ⟨rfl,((hS.fr.setCell (by simp <;> omega) _).setCell (by simp <;> omega) _).setCell (by simp <;> omega) _⟩
theorem runRatio_0 (p k:Nat) (s:Bool) (a:Option Addr) (n cap:Nat) (a':Option Addr) (n' cap':Nat) (w:World) (h:Rn w p k) :
  Calls Tryz.prog 43 #[.pointer (some ⟨p,k,none⟩),.agg #[.bool s,.slice a n cap,.slice a' n' cap'],.int .i64 0] w fun e w'=>e = .returned (.agg #[.bool s,.slice a n cap,.slice a' n' cap'])∧Below w.heap.size w w':=by
 have H:=hide h
 clear h
 go_enter Tryz.func43,Tryz.ntmps43
 go_wp2_with fail
 refine (keep_0 p k _ ((unhide H).kept (Fs.two w _ _ _ _).fr)).mono ?_
 rintro e w1 ⟨rfl,hb1⟩
 have hS:=(Fs.two w _ _ _ _).kept hb1
 obtain ⟨⟨ya,yb,yc,-⟩,⟨yd,ye,yf,-⟩,-⟩:=hS.cells
 have Q_:=hS.frozen (b:=w.heap.size+1) (cs:=#[.bool false,.slice none 0 0,.slice none 0 0]) (t:=88) (by simp)
 have fz0:=Q_ 0
 have fz1:=Q_ 1
 have fz2:=Q_ 2
 clear Q_
 go_wp2
 exact bodyPost_ret (v:=.agg #[.bool s,.slice a n cap,.slice a' n' cap']) (by simp [results,Tryz.results43,go_sem,yd,ye,yf]) rfl ⟨rfl,((hS.fr.setCell (by simp <;> omega) _).setCell (by simp <;> omega) _).setCell (by simp <;> omega) _⟩
def Vals (E F b:Int) (s:Bool) (m:Nat) (x:Int):Prop:=∀ W:World,Tb W→Calls Tryz.prog 14 #[.agg #[.int .i64 E,.int .i64 F],.int .u64 b] W fun e w'=>(∃ A N C,e = .returned (.tuple #[.agg #[.bool s,.slice A N C,.int .i64 x],.int .i64 0])∧Mine w' W.heap.size A N C m)∧Below W.heap.size W w'
end Go.Proofs.YtbgafednekomhaaGreatDoor
