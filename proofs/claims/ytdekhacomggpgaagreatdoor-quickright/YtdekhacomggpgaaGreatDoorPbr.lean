/- Of what QuickRightRow stands on: RStr0. -/
import Derived.Test.YtdekhacomggpgaaGreatDoorProg
import Derived.Lib.Strings
import Derived.Lib.Slices
import Derived.Lib.Small
import Derived.Lib.Walk
import Derived.Lib.Bytealg
namespace Go.Proofs.YtdekhacomggpgaaGreatDoor

end Go.Proofs.YtdekhacomggpgaaGreatDoor
