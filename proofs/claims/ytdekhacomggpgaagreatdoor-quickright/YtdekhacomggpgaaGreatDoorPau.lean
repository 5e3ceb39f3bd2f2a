/- Of what QuickRightRow stands on: DcCopy. -/
import Derived.Test.YtdekhacomggpgaaGreatDoorPaf
import Derived.Lib.BufferWrite
import Derived.Deep.RegionLaw
namespace Go.Proofs.YtdekhacomggpgaaGreatDoor
open Go.RowKit

end Go.Proofs.YtdekhacomggpgaaGreatDoor
