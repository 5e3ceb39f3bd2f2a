/- Of what NearStepsRow stands on: Parse. -/
import Derived.Test.YtdfmanglfdeooaaGreatDoorPaf
import Derived.Deep.LoopGhost
namespace Go.Proofs.YtdfmanglfdeooaaGreatDoor
open Go.RowKit
end Go.Proofs.YtdfmanglfdeooaaGreatDoor
