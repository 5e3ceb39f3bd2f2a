/- Of what RatioBackRow stands on: ExTwos. -/
import Derived.Test.YtcfccblpcngeaaaGreatPaj
import Derived.Lib.TrailingZeros
import Derived.Deep.LoopGhost
namespace Go.Proofs.YtcfccblpcngeaaaGreat
open Go.RowKit

end Go.Proofs.YtcfccblpcngeaaaGreat
