/- Of what DecBackRow stands on: ExTwos. -/
import Derived.Test.YtpmmapoabbpaiaaGreatPao
import Derived.Lib.TrailingZeros
import Derived.Deep.LoopGhost
namespace Go.Proofs.YtpmmapoabbpaiaaGreat
open Go.RowKit

end Go.Proofs.YtpmmapoabbpaiaaGreat
