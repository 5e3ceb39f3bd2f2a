/- Of what DecExactRow stands on: ExValue ExWo. -/
import Derived.Test.YtpmmapoabbpaiaaGreatPbp
import Derived.Test.YtpmmapoabbpaiaaGreatPau
import Derived.Test.YtpmmapoabbpaiaaGreatPab
namespace Go.Proofs.YtpmmapoabbpaiaaGreat
open Go.RowKit

end Go.Proofs.YtpmmapoabbpaiaaGreat
