/- Of what DecBackRow stands on: Grow. -/
import Derived.Test.YtpmmapoabbpaiaaGreatPaf
import Derived.ArgAppend
import Derived.Deep.Upon
import Derived.Maps.AppendAt
namespace Go.Proofs.YtpmmapoabbpaiaaGreat
open Go.RowKit

end Go.Proofs.YtpmmapoabbpaiaaGreat
