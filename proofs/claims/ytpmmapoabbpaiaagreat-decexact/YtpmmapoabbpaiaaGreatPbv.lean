/- Of what DecExactRow stands on: DcTxB. -/
import Derived.Test.YtpmmapoabbpaiaaGreatPbd
import Derived.Test.YtpmmapoabbpaiaaGreatPbf
namespace Go.Proofs.YtpmmapoabbpaiaaGreat
open Go.RowKit

end Go.Proofs.YtpmmapoabbpaiaaGreat
