/- Of what QuickRightRow stands on: ExAddS ExAdd ExOver ExAddR. -/
import Derived.Test.YtdekhacomggpgaaGreatDoorPba
import Derived.Test.YtdekhacomggpgaaGreatDoorPbb
import Derived.Test.YtdekhacomggpgaaGreatDoorPbc
import Derived.Test.YtdekhacomggpgaaGreatDoorPag
namespace Go.Proofs.YtdekhacomggpgaaGreatDoor
open Go.RowKit

end Go.Proofs.YtdekhacomggpgaaGreatDoor
