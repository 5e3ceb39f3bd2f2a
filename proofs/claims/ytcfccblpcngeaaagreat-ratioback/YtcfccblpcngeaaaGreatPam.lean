/- Of what RatioBackRow stands on: RefMul. -/
import Derived.Test.YtcfccblpcngeaaaGreatPab
import Derived.Test.YtcfccblpcngeaaaGreatPaa
import Derived.Deep.LoopGhost
import Derived.BigQuiet
namespace Go.Proofs.YtcfccblpcngeaaaGreat
open Go.RowKit

end Go.Proofs.YtcfccblpcngeaaaGreat
