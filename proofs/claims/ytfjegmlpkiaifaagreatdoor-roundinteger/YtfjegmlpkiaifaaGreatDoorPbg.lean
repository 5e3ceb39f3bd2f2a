/- Of what RoundIntegerRow stands on: ExMul ExValue ExWo. -/
import Derived.Test.YtfjegmlpkiaifaaGreatDoorPbe
import Derived.Test.YtfjegmlpkiaifaaGreatDoorPaz
import Derived.Test.YtfjegmlpkiaifaaGreatDoorPag
import Derived.Test.YtfjegmlpkiaifaaGreatDoorPab
namespace Go.Proofs.YtfjegmlpkiaifaaGreatDoor
open Go.RowKit

end Go.Proofs.YtfjegmlpkiaifaaGreatDoor
