/- Of what DecShiftsRow stands on: DcBytes. -/
import Derived.Test.YtdbmdhfjmdlihaaDoorPao
import Derived.Lib.BytesEntry
import Derived.Lib.Bytealg
namespace Go.Proofs.YtdbmdhfjmdlihaaDoor
open Go.RowKit

end Go.Proofs.YtdbmdhfjmdlihaaDoor
