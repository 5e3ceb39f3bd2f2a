/- Of what QuickThereRow stands on: DcBytes. -/
import Derived.Test.YtdekhacomggpgaaGreatDoorPao
import Derived.Lib.BytesEntry
import Derived.Lib.Bytealg
namespace Go.Proofs.YtdekhacomggpgaaGreatDoor
open Go.RowKit

end Go.Proofs.YtdekhacomggpgaaGreatDoor
