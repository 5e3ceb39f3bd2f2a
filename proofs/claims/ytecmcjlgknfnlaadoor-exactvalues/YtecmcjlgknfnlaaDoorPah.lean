/- Of what ExactValuesRow stands on: BitsLen. -/
import Derived.Test.YtecmcjlgknfnlaaDoorProg
import Derived.Lib.Strings
import Derived.Lib.Slices
import Derived.Lib.Small
import Derived.Lib.Walk
import Derived.Lib.BitFns
namespace Go.Proofs.YtecmcjlgknfnlaaDoor
end Go.Proofs.YtecmcjlgknfnlaaDoor
