/- Of what DecBackRow stands on: DcItoa. -/
import Derived.Test.YtpmmapoabbpaiaaGreatPaf
import Derived.Shelf.Strconv.Itoa3
import Derived.Lib.AppendIntMem
namespace Go.Proofs.YtpmmapoabbpaiaaGreat
open Go.RowKit

end Go.Proofs.YtpmmapoabbpaiaaGreat
