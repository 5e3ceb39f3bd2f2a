/- Of what DecExactRow stands on: ExMake ExWorth. -/
import Derived.Test.YtpmmapoabbpaiaaGreatPat
import Derived.Test.YtpmmapoabbpaiaaGreatPbo
import Derived.Test.YtpmmapoabbpaiaaGreatPab
namespace Go.Proofs.YtpmmapoabbpaiaaGreat
open Go.RowKit

end Go.Proofs.YtpmmapoabbpaiaaGreat
