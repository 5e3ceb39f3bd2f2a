/- Of what DecRoundsRow stands on: BitsLen. -/
import Derived.Test.YtmmkefdbdpfpdaaProg
import Derived.Lib.Strings
import Derived.Lib.Slices
import Derived.Lib.Small
import Derived.Lib.Walk
import Derived.Lib.BitFns
namespace Go.Proofs.Ytmmkefdbdpfpdaa

end Go.Proofs.Ytmmkefdbdpfpdaa
