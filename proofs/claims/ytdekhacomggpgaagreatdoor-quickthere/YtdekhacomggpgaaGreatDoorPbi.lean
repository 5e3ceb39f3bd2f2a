/- Of what QuickThereRow stands on: ExAddS ExAdd ExOver ExAddR. -/
import Derived.Test.YtdekhacomggpgaaGreatDoorPbf
import Derived.Test.YtdekhacomggpgaaGreatDoorPbg
import Derived.Test.YtdekhacomggpgaaGreatDoorPbh
import Derived.Test.YtdekhacomggpgaaGreatDoorPao
namespace Go.Proofs.YtdekhacomggpgaaGreatDoor
open Go.RowKit

end Go.Proofs.YtdekhacomggpgaaGreatDoor
