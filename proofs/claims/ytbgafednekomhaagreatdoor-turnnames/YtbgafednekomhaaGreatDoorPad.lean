/- Of what TurnNamesRow stands on: FmFrame. -/
import Derived.Test.YtbgafednekomhaaGreatDoorPab
import Derived.Test.YtbgafednekomhaaGreatDoorPac
import Derived.ProofKit
import Derived.OpenShut
import Derived.ChangeOld
import Derived.ChangeSame
import Derived.ChangeSlices
import Derived.Below
import Derived.Deep.Strs
namespace Go.Proofs.YtbgafednekomhaaGreatDoor
open Go.ChangeShapes Go.WideShapes Go.ChangeAt Go.RowKit

end Go.Proofs.YtbgafednekomhaaGreatDoor
