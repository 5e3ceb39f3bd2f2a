/- Of what QuickNamesRow stands on: FmFrame TnFrame. -/
import Derived.Test.YtohjmjlfmloiaaaPab
import Derived.Test.YtohjmjlfmloiaaaPac
import Derived.ProofKit
import Derived.OpenShut
import Derived.ChangeOld
import Derived.ChangeSame
import Derived.ChangeSlices
import Derived.Below
import Derived.Deep.Strs
namespace Go.Proofs.Ytohjmjlfmloiaaa
open Go.ChangeShapes Go.WideShapes Go.ChangeAt Go.RowKit
open Go.RowKit

end Go.Proofs.Ytohjmjlfmloiaaa
