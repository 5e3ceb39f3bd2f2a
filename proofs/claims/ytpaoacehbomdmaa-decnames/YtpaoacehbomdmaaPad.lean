/- Of what DecNamesRow stands on: FmFrame TnFrame. -/
import Derived.Test.YtpaoacehbomdmaaPab
import Derived.Test.YtpaoacehbomdmaaPac
import Derived.ProofKit
import Derived.OpenShut
import Derived.ChangeOld
import Derived.ChangeSame
import Derived.ChangeSlices
import Derived.Below
import Derived.Deep.Strs
namespace Go.Proofs.Ytpaoacehbomdmaa
open Go.ChangeShapes Go.WideShapes Go.ChangeAt Go.RowKit
open Go.RowKit

end Go.Proofs.Ytpaoacehbomdmaa
