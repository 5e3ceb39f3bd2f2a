/- Of what SoftPicksRow stands on: Parse. -/
import Derived.Test.YtongmpfampjdoaaGreatDoorPaf
import Derived.Deep.LoopGhost
namespace Go.Proofs.YtongmpfampjdoaaGreatDoor
open Go.RowKit

end Go.Proofs.YtongmpfampjdoaaGreatDoor
