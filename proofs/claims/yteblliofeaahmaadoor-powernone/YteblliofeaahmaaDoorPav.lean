/- Of what PowerNoneRow stands on: RefLow. -/
import Derived.Test.YteblliofeaahmaaDoorPar
import Derived.Test.YteblliofeaahmaaDoorPal
import Derived.Deep.RegionWith
namespace Go.Proofs.YteblliofeaahmaaDoor
open Go.RowKit

end Go.Proofs.YteblliofeaahmaaDoor
