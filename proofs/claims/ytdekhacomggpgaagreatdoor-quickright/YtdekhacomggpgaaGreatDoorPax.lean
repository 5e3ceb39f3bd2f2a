/- Of what QuickRightRow stands on: DcBytes. -/
import Derived.Test.YtdekhacomggpgaaGreatDoorPag
import Derived.Lib.BytesEntry
import Derived.Lib.Bytealg
namespace Go.Proofs.YtdekhacomggpgaaGreatDoor
open Go.RowKit

end Go.Proofs.YtdekhacomggpgaaGreatDoor
