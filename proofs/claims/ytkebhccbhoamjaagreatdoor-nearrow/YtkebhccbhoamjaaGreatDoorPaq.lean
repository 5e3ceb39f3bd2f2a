/- Of what NearRowRow stands on: Parse. -/
import Derived.Test.YtkebhccbhoamjaaGreatDoorPaf
import Derived.Deep.LoopGhost
namespace Go.Proofs.YtkebhccbhoamjaaGreatDoor
open Go.RowKit

end Go.Proofs.YtkebhccbhoamjaaGreatDoor
