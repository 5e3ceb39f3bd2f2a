/- Of what QuickSureRow stands on: Compare Same Mul Sub. -/
import Derived.Test.YtohjmjlfmloiaaaDoorPaf
import Derived.BigQuiet
namespace Go.Proofs.YtohjmjlfmloiaaaDoor
open Go.RowKit

end Go.Proofs.YtohjmjlfmloiaaaDoor
