/- Of what RoundIntegerRow stands on: Grow. -/
import Derived.Test.YtfjegmlpkiaifaaGreatDoorPaf
import Derived.ArgAppend
import Derived.Deep.Upon
import Derived.Maps.AppendAt
namespace Go.Proofs.YtfjegmlpkiaifaaGreatDoor
open Go.RowKit

end Go.Proofs.YtfjegmlpkiaifaaGreatDoor
