/- Of what ExactBitsRow stands on: RefMul. -/
import Derived.Test.YtjemjhaphannaaaPaf
import Derived.Test.YtjemjhaphannaaaPae
import Derived.Deep.LoopGhost
import Derived.BigQuiet
namespace Go.Proofs.Ytjemjhaphannaaa
open Go.RowKit
end Go.Proofs.Ytjemjhaphannaaa
