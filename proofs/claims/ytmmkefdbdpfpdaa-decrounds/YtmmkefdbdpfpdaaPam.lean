/- Of what DecRoundsRow stands on: Compare Same Mul Sub. -/
import Derived.Test.YtmmkefdbdpfpdaaPaf
import Derived.BigQuiet
import Derived.Test.YtmmkefdbdpfpdaaPai
namespace Go.Proofs.Ytmmkefdbdpfpdaa
open Go.RowKit

end Go.Proofs.Ytmmkefdbdpfpdaa
