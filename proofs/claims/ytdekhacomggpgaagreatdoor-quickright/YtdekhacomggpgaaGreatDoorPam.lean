/- Of what QuickRightRow stands on: DcClone. -/
import Derived.Test.YtdekhacomggpgaaGreatDoorPaf
import Derived.Shelf.Pu.Clone
namespace Go.Proofs.YtdekhacomggpgaaGreatDoor
open Go.RowKit Go.Shelf

end Go.Proofs.YtdekhacomggpgaaGreatDoor
