/- Of what DecBackRow stands on: DcTxB. -/
import Derived.Test.YtpmmapoabbpaiaaGreatPbb
import Derived.Test.YtpmmapoabbpaiaaGreatPbf
namespace Go.Proofs.YtpmmapoabbpaiaaGreat
open Go.RowKit

end Go.Proofs.YtpmmapoabbpaiaaGreat
