/- Of what PowerNoneRow stands on: BitsLen. -/
import Derived.Test.YteblliofeaahmaaDoorProg
import Derived.Lib.Strings
import Derived.Lib.Slices
import Derived.Lib.Small
import Derived.Lib.Walk
import Derived.Lib.BitFns
namespace Go.Proofs.YteblliofeaahmaaDoor

end Go.Proofs.YteblliofeaahmaaDoor
