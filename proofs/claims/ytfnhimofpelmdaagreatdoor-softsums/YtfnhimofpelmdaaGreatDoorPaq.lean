/- Of what SoftSumsRow stands on: Parse. -/
import Derived.Test.YtfnhimofpelmdaaGreatDoorPaf
import Derived.Deep.LoopGhost
namespace Go.Proofs.YtfnhimofpelmdaaGreatDoor
open Go.RowKit

end Go.Proofs.YtfnhimofpelmdaaGreatDoor
