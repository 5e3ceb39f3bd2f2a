/- Of what QuickThereRow stands on: DcCopy. -/
import Derived.Test.YtdekhacomggpgaaGreatDoorPai
import Derived.Lib.BufferWrite
import Derived.Deep.RegionLaw
namespace Go.Proofs.YtdekhacomggpgaaGreatDoor
open Go.RowKit

end Go.Proofs.YtdekhacomggpgaaGreatDoor
