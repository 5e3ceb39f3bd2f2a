/- Of what RatioBackRow stands on: ExMake ExWorth. -/
import Derived.Test.YtcfccblpcngeaaaGreatPan
import Derived.Test.YtcfccblpcngeaaaGreatPbl
import Derived.Test.YtcfccblpcngeaaaGreatPah
namespace Go.Proofs.YtcfccblpcngeaaaGreat
open Go.RowKit

end Go.Proofs.YtcfccblpcngeaaaGreat
