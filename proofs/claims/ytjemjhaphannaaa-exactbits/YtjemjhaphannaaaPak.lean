/- Of what ExactBitsRow stands on: Mul Compare Same. -/
import Derived.Test.YtjemjhaphannaaaPaf
import Derived.BigQuiet
namespace Go.Proofs.Ytjemjhaphannaaa
open Go.RowKit
end Go.Proofs.Ytjemjhaphannaaa
namespace Go.Proofs.Ytjemjhaphannaaa
open Go.RowKit
end Go.Proofs.Ytjemjhaphannaaa
namespace Go.Proofs.Ytjemjhaphannaaa
open Go.RowKit
end Go.Proofs.Ytjemjhaphannaaa
