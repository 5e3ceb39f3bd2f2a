/- Of what DecShiftsRow stands on: DcMulW. -/
import Derived.Test.YtdbmdhfjmdlihaaDoorPal
import Derived.Test.YtdbmdhfjmdlihaaDoorPau
import Derived.Test.YtdbmdhfjmdlihaaDoorPba
import Derived.Test.YtdbmdhfjmdlihaaDoorPan
import Derived.Test.YtdbmdhfjmdlihaaDoorPao
import Derived.Test.YtdbmdhfjmdlihaaDoorPaf
import Derived.Test.YtdbmdhfjmdlihaaDoorPat
namespace Go.Proofs.YtdbmdhfjmdlihaaDoor
open Go.RowKit

end Go.Proofs.YtdbmdhfjmdlihaaDoor
