/- Of what RoundIntegerRow stands on: Parse. -/
import Derived.Test.YtfjegmlpkiaifaaGreatDoorPaf
import Derived.Deep.LoopGhost
namespace Go.Proofs.YtfjegmlpkiaifaaGreatDoor
open Go.RowKit
theorem Box.under {w w':World} {p B:Nat} {v:Value} (h:Box w p v) (hb:Below B w w') (hp:p < B):Box w' p v:=by
 unfold Box; rw [hb.block p hp]; exact h
end Go.Proofs.YtfjegmlpkiaifaaGreatDoor
