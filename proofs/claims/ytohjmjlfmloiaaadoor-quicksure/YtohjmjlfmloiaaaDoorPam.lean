/- Of what QuickSureRow stands on: BitsLen. -/
import Derived.Test.YtohjmjlfmloiaaaDoorProg
import Derived.Lib.Strings
import Derived.Lib.Slices
import Derived.Lib.Small
import Derived.Lib.Walk
import Derived.Lib.BitFns
namespace Go.Proofs.YtohjmjlfmloiaaaDoor

end Go.Proofs.YtohjmjlfmloiaaaDoor
