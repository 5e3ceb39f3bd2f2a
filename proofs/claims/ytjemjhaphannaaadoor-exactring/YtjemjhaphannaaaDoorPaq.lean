/- Of what ExactRingRow stands on: RefMul. -/
import Derived.Test.YtjemjhaphannaaaDoorPaf
import Derived.Test.YtjemjhaphannaaaDoorPae
import Derived.Deep.LoopGhost
import Derived.BigQuiet
namespace Go.Proofs.YtjemjhaphannaaaDoor
open Go.RowKit
end Go.Proofs.YtjemjhaphannaaaDoor
