/- Of what PowerDigitsRow stands on: Compare Same Mul Div. -/
import Derived.Test.YteblliofeaahmaaDoorPaf
import Derived.BigQuiet
namespace Go.Proofs.YteblliofeaahmaaDoor
open Go.RowKit

end Go.Proofs.YteblliofeaahmaaDoor
