/- Of what RoundIntegerRow stands on: RefMul. -/
import Derived.Test.YtfjegmlpkiaifaaGreatDoorPaf
import Derived.Test.YtfjegmlpkiaifaaGreatDoorPae
import Derived.Deep.LoopGhost
import Derived.BigQuiet
namespace Go.Proofs.YtfjegmlpkiaifaaGreatDoor
open Go.RowKit

end Go.Proofs.YtfjegmlpkiaifaaGreatDoor
