/- Of what SoftFmasRow stands on: Parse. -/
import Derived.Test.YtfimakkpdjppfaaGreatDoorPaf
import Derived.Deep.LoopGhost
namespace Go.Proofs.YtfimakkpdjppfaaGreatDoor
open Go.RowKit

end Go.Proofs.YtfimakkpdjppfaaGreatDoor
