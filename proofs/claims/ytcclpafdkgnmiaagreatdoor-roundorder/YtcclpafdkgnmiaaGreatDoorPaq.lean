/- Of what RoundOrderRow stands on: Parse. -/
import Derived.Test.YtcclpafdkgnmiaaGreatDoorPaf
import Derived.Deep.LoopGhost
namespace Go.Proofs.YtcclpafdkgnmiaaGreatDoor
open Go.RowKit
theorem Box.under {w w':World} {p B:Nat} {v:Value} (h:Box w p v) (hb:Below B w w') (hp:p < B):Box w' p v:=by
 unfold Box; rw [hb.block p hp]; exact h
end Go.Proofs.YtcclpafdkgnmiaaGreatDoor
