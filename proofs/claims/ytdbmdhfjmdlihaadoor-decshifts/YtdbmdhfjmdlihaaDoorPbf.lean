/- Of what DecShiftsRow stands on: TnRun0. -/
import Derived.Test.YtdbmdhfjmdlihaaDoorPab
import Derived.Test.YtdbmdhfjmdlihaaDoorPaz
import Derived.Test.YtdbmdhfjmdlihaaDoorPbe
namespace Go.Proofs.YtdbmdhfjmdlihaaDoor
open Go.RowKit
def Rz (w:World) (p k:Nat):Prop:=∃ cs t,w.heap[p]? = some (.cells cs t (0,0))∧cs[k]? = some (.int .i64 0)
theorem Rz.kept {w w':World} {p k:Nat} (h:Rz w p k) (hb:Below w.heap.size w w'):Rz w' p k:=by
 obtain ⟨cs,t,h1,h2⟩:=h
 exact ⟨cs,t,by rw [hb.block _ (block_lt h1)]; exact h1,h2⟩
theorem Rz.cell {w:World} {p k:Nat} (h:Rz w p k):w.cell? ⟨p,k,none⟩ = some (.int .i64 0)∧w.frozen? ⟨p,k,none⟩ = false:=by
 obtain ⟨cs,t,h1,h2⟩:=h
 exact ⟨by rw [cell_of_row w p k _ _ _ h1]; exact h2,frozen_of_row w p k _ _ h1⟩
end Go.Proofs.YtdbmdhfjmdlihaaDoor
