/- Of what ExactNamesRow stands on: RefMul. -/
import Derived.Test.YtjemjhaphannaaaDoorPad
import Derived.Test.YtjemjhaphannaaaDoorPac
import Derived.Deep.LoopGhost
import Derived.BigQuiet
namespace Go.Proofs.YtjemjhaphannaaaDoor
open Go.RowKit
end Go.Proofs.YtjemjhaphannaaaDoor
