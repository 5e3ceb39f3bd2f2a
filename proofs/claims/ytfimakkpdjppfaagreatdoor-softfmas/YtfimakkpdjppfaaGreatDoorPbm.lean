/- Of what SoftFmasRow stands on: SxAdd SxMul. -/
import Derived.Test.YtfimakkpdjppfaaGreatDoorPbh
import Derived.Test.YtfimakkpdjppfaaGreatDoorPau
import Derived.Test.YtfimakkpdjppfaaGreatDoorPbk
namespace Go.Proofs.YtfimakkpdjppfaaGreatDoor
open Go.RowKit

end Go.Proofs.YtfimakkpdjppfaaGreatDoor
