/- Of what PowerNoneRow stands on: Parse. -/
import Derived.Test.YteblliofeaahmaaDoorPao
import Derived.Test.YteblliofeaahmaaDoorPaf
import Derived.Deep.LoopGhost
namespace Go.Proofs.YteblliofeaahmaaDoor
open Go.RowKit

end Go.Proofs.YteblliofeaahmaaDoor
