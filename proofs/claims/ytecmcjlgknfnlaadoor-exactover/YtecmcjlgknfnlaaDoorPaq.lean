/- Of what ExactOverRow stands on: RefMul. -/
import Derived.Test.YtecmcjlgknfnlaaDoorPaf
import Derived.Test.YtecmcjlgknfnlaaDoorPae
import Derived.Deep.LoopGhost
import Derived.BigQuiet
namespace Go.Proofs.YtecmcjlgknfnlaaDoor
open Go.RowKit
end Go.Proofs.YtecmcjlgknfnlaaDoor
