/- Of what SoftPicksRow stands on: ExAddS ExAdd ExOver ExAddR ExLimit ExAddO ExSum NrSum NrRun NrMid. -/
import Derived.Test.YtongmpfampjdoaaGreatDoorPaq
import Derived.Test.YtongmpfampjdoaaGreatDoorPar
import Derived.Test.YtongmpfampjdoaaGreatDoorPau
import Derived.Test.YtongmpfampjdoaaGreatDoorPag
import Derived.Test.YtongmpfampjdoaaGreatDoorPas
import Derived.Test.YtongmpfampjdoaaGreatDoorPab
namespace Go.Proofs.YtongmpfampjdoaaGreatDoor
open Go.RowKit
def Rn (w : World) (p k : Nat) : Prop := ∃ cs t,w.heap[p]? = some (.cells cs t (0,0)) ∧ cs[k]? = some (.int .i64 0)
theorem Rn.kept {w w' : World} {p k : Nat} (h : Rn w p k) (hb : Below w.heap.size w w') : Rn w' p k := by
 obtain ⟨cs,t,h1,h2⟩ := h
 exact ⟨cs,t,by rw [hb.block _ (block_lt h1)]; exact h1,h2⟩
theorem Rn.cell {w : World} {p k : Nat} (h : Rn w p k) : w.cell? ⟨p,k,none⟩ = some (.int .i64 0) ∧ w.frozen? ⟨p,k,none⟩ = false := by
 obtain ⟨cs,t,h1,h2⟩ := h
 exact ⟨by rw [cell_of_row w p k _ _ _ h1]; exact h2,frozen_of_row w p k _ _ h1⟩
def Vals (E F b : Int) (s : Bool) (m : Nat) (x : Int) : Prop := ∀ W : World,Tb W → Calls Tryz.prog 45 #[.agg #[.int .i64 E,.int .i64 F],.int .u64 b] W fun e w' => (∃ A N C,e = .returned (.tuple #[.agg #[.bool s,.slice A N C,.int .i64 x],.int .i64 0]) ∧ Mine w' W.heap.size A N C m) ∧ Below W.heap.size W w'
end Go.Proofs.YtongmpfampjdoaaGreatDoor
