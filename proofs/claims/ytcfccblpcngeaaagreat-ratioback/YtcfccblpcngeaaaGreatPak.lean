/- Of what RatioBackRow stands on: Grow. -/
import Derived.Test.YtcfccblpcngeaaaGreatPab
import Derived.ArgAppend
import Derived.Deep.Upon
import Derived.Maps.AppendAt
namespace Go.Proofs.YtcfccblpcngeaaaGreat
open Go.RowKit

end Go.Proofs.YtcfccblpcngeaaaGreat
