/- Of what QuickRightRow stands on: ExLimit ExAddO ExSum NrSum NrRun NrMid ExAlive. -/
import Derived.Test.YtdekhacomggpgaaGreatDoorPbd
import Derived.Test.YtdekhacomggpgaaGreatDoorPbe
import Derived.Test.YtdekhacomggpgaaGreatDoorPbb
import Derived.Test.YtdekhacomggpgaaGreatDoorPab
import Derived.Test.YtdekhacomggpgaaGreatDoorPag
namespace Go.Proofs.YtdekhacomggpgaaGreatDoor
open Go.RowKit
def Rn (w:World) (p k:Nat):Prop:=∃ cs t,w.heap[p]? = some (.cells cs t (0,0))∧cs[k]? = some (.int .i64 0)
theorem Rn.kept {w w':World} {p k:Nat} (h:Rn w p k) (hb:Below w.heap.size w w'):Rn w' p k:=by
 obtain ⟨cs,t,h1,h2⟩:=h
 exact ⟨cs,t,by rw [hb.block _ (block_lt h1)]; exact h1,h2⟩
theorem Rn.cell {w:World} {p k:Nat} (h:Rn w p k):w.cell? ⟨p,k,none⟩ = some (.int .i64 0)∧w.frozen? ⟨p,k,none⟩ = false:=by
 obtain ⟨cs,t,h1,h2⟩:=h
 exact ⟨by rw [cell_of_row w p k _ _ _ h1]; exact h2,frozen_of_row w p k _ _ h1⟩
theorem Rn.still {w:World} {p k:Nat} (h:Rn w p k):w.setCell ⟨p,k,none⟩ (.int .i64 0) = w:=by
 obtain ⟨cs,t,h1,h2⟩:=h
 exact setCell_still h1 h2
theorem keep_0 (p k:Nat) (w:World) (h:Rn w p k) :
  Calls Tryz.prog 39 #[.pointer (some ⟨p,k,none⟩),.int .i64 0] w fun en w'=>en = .returned (.tuple #[])∧Below w.heap.size w w':=by
 obtain ⟨h1,h2⟩:=h.cell
 have h3:=h.still
 go_enter Tryz.func39,Tryz.ntmps39
 go_wp2
 go_end0
 exact ⟨rfl,Below.refl _ _⟩
end Go.Proofs.YtdekhacomggpgaaGreatDoor
