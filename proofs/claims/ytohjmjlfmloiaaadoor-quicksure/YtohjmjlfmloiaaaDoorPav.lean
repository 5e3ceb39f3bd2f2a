/- Of what QuickSureRow stands on: DcCopy. -/
import Derived.Test.YtohjmjlfmloiaaaDoorPaf
import Derived.Lib.BufferWrite
import Derived.Deep.RegionLaw
namespace Go.Proofs.YtohjmjlfmloiaaaDoor
open Go.RowKit

end Go.Proofs.YtohjmjlfmloiaaaDoor
