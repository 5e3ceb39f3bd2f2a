/- Of what SoftPicksRow stands on: BitsLen. -/
import Derived.Test.YtongmpfampjdoaaGreatDoorProg
import Derived.Lib.Strings
import Derived.Lib.Slices
import Derived.Lib.Small
import Derived.Lib.Walk
import Derived.Lib.BitFns
namespace Go.Proofs.YtongmpfampjdoaaGreatDoor

end Go.Proofs.YtongmpfampjdoaaGreatDoor
