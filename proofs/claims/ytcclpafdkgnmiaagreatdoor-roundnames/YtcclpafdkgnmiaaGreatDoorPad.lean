/- Of what RoundNamesRow stands on: FmFrame. -/
import Derived.Test.YtcclpafdkgnmiaaGreatDoorPab
import Derived.Test.YtcclpafdkgnmiaaGreatDoorPac
import Derived.ProofKit
import Derived.OpenShut
import Derived.ChangeOld
import Derived.ChangeSame
import Derived.ChangeSlices
import Derived.Below
import Derived.Deep.Strs
namespace Go.Proofs.YtcclpafdkgnmiaaGreatDoor
open Go.ChangeShapes Go.WideShapes Go.ChangeAt Go.RowKit

end Go.Proofs.YtcclpafdkgnmiaaGreatDoor
