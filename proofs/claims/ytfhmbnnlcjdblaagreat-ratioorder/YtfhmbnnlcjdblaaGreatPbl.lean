/- Of what RatioOrderRow stands on: ExTwos. -/
import Derived.Test.YtfhmbnnlcjdblaaGreatPah
import Derived.Lib.TrailingZeros
import Derived.Deep.LoopGhost
namespace Go.Proofs.YtfhmbnnlcjdblaaGreat
open Go.RowKit
def Tz (m z:Nat):Prop:=∃ q,m = 2 ^ z * (2 * q+1)
end Go.Proofs.YtfhmbnnlcjdblaaGreat
