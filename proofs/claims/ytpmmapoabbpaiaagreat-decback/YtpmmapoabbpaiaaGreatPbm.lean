/- Of what DecBackRow stands on: RySame. -/
import Derived.Test.YtpmmapoabbpaiaaGreatPay
import Derived.Test.YtpmmapoabbpaiaaGreatPab
import Derived.Test.YtpmmapoabbpaiaaGreatPbl
namespace Go.Proofs.YtpmmapoabbpaiaaGreat
open Go.RowKit

end Go.Proofs.YtpmmapoabbpaiaaGreat
