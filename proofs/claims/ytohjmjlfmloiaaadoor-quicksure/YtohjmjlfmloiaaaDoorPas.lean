/- Of what QuickSureRow stands on: RefMul RefOver. -/
import Derived.Test.YtohjmjlfmloiaaaDoorPaf
import Derived.Test.YtohjmjlfmloiaaaDoorPae
import Derived.Deep.LoopGhost
import Derived.BigQuiet
namespace Go.Proofs.YtohjmjlfmloiaaaDoor
open Go.RowKit

end Go.Proofs.YtohjmjlfmloiaaaDoor
