/- Of what DecShiftsRow stands on: BitsLen. -/
import Derived.Test.YtdbmdhfjmdlihaaDoorProg
import Derived.Lib.Strings
import Derived.Lib.Slices
import Derived.Lib.Small
import Derived.Lib.Walk
import Derived.Lib.BitFns
namespace Go.Proofs.YtdbmdhfjmdlihaaDoor

end Go.Proofs.YtdbmdhfjmdlihaaDoor
