/- Of what DecBackRow stands on: ExMake ExWorth. -/
import Derived.Test.YtpmmapoabbpaiaaGreatPas
import Derived.Test.YtpmmapoabbpaiaaGreatPbk
import Derived.Test.YtpmmapoabbpaiaaGreatPab
namespace Go.Proofs.YtpmmapoabbpaiaaGreat
open Go.RowKit

end Go.Proofs.YtpmmapoabbpaiaaGreat
