/- Of what DecBackRow stands on: ExValue ExWo. -/
import Derived.Test.YtpmmapoabbpaiaaGreatPbl
import Derived.Test.YtpmmapoabbpaiaaGreatPat
import Derived.Test.YtpmmapoabbpaiaaGreatPab
namespace Go.Proofs.YtpmmapoabbpaiaaGreat
open Go.RowKit

end Go.Proofs.YtpmmapoabbpaiaaGreat
