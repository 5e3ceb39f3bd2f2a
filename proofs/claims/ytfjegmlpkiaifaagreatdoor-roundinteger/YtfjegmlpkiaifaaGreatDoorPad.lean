/- Of what RoundIntegerRow stands on: FmFrame. -/
import Derived.Test.YtfjegmlpkiaifaaGreatDoorPab
import Derived.Test.YtfjegmlpkiaifaaGreatDoorPac
import Derived.ProofKit
import Derived.OpenShut
import Derived.ChangeOld
import Derived.ChangeSame
import Derived.ChangeSlices
import Derived.Below
import Derived.Deep.Strs
namespace Go.Proofs.YtfjegmlpkiaifaaGreatDoor
open Go.ChangeShapes Go.WideShapes Go.ChangeAt Go.RowKit

end Go.Proofs.YtfjegmlpkiaifaaGreatDoor
