/- Of what DecNearRow stands on: DcTxB. -/
import Derived.Test.YtbblodioaedckaaGreatPbc
import Derived.Test.YtbblodioaedckaaGreatPbf
namespace Go.Proofs.YtbblodioaedckaaGreat
open Go.RowKit

end Go.Proofs.YtbblodioaedckaaGreat
