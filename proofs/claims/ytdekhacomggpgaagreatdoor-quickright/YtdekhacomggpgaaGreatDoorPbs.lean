/- Of what QuickRightRow stands on: RStr. -/
import Derived.Test.YtdekhacomggpgaaGreatDoorPaf
import Derived.Test.YtdekhacomggpgaaGreatDoorPbr
import Derived.RegionTactic
namespace Go.Proofs.YtdekhacomggpgaaGreatDoor
open Go.RowKit

end Go.Proofs.YtdekhacomggpgaaGreatDoor
