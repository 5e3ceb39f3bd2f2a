/- Of what RoundWorthRow stands on: ExLimit ExAddO ExSum NrSum NrRun NrMid ExAlive. -/
import Derived.Test.YtbbhlfngjoongaaGreatDoorPbb
import Derived.Test.YtbbhlfngjoongaaGreatDoorPbc
import Derived.Test.YtbbhlfngjoongaaGreatDoorPaw
import Derived.Test.YtbbhlfngjoongaaGreatDoorPab
import Derived.Test.YtbbhlfngjoongaaGreatDoorPag
namespace Go.Proofs.YtbbhlfngjoongaaGreatDoor
open Go.RowKit
def OkD (s:Bool) (m:Nat) (x:Int):Prop:=(m = 0∧s = false∧x = 0)∨(m % 2 = 1∧-1073741824≤x∧x≤1073741824)
def Rn (w:World) (p k:Nat):Prop:=∃ cs t,w.heap[p]? = some (.cells cs t (0,0))∧cs[k]? = some (.int .i64 0)
theorem Rn.kept {w w':World} {p k:Nat} (h:Rn w p k) (hb:Below w.heap.size w w'):Rn w' p k:=by
 obtain ⟨cs,t,h1,h2⟩:=h
 exact ⟨cs,t,by rw [hb.block _ (block_lt h1)]; exact h1,h2⟩
theorem Rn.cell {w:World} {p k:Nat} (h:Rn w p k):w.cell? ⟨p,k,none⟩ = some (.int .i64 0)∧w.frozen? ⟨p,k,none⟩ = false:=by
 obtain ⟨cs,t,h1,h2⟩:=h
 exact ⟨by rw [cell_of_row w p k _ _ _ h1]; exact h2,frozen_of_row w p k _ _ h1⟩
theorem Rn.still {w:World} {p k:Nat} (h:Rn w p k):w.setCell ⟨p,k,none⟩ (.int .i64 0) = w:=by
 obtain ⟨cs,t,h1,h2⟩:=h
 exact setCell_still h1 h2
theorem keep_0 (p k:Nat) (w:World) (h:Rn w p k) :
  Calls Tryz.prog 45 #[.pointer (some ⟨p,k,none⟩),.int .i64 0] w fun en w'=>en = .returned (.tuple #[])∧Below w.heap.size w w':=by
 obtain ⟨h1,h2⟩:=h.cell
 have h3:=h.still
 go_enter Tryz.func45,Tryz.ntmps45
 go_wp2
 go_end0
 exact ⟨rfl,Below.refl _ _⟩
end Go.Proofs.YtbbhlfngjoongaaGreatDoor
