/- Of what RatioBackRow stands on: RefUpDown ExCheck. -/
import Derived.Test.YtcfccblpcngeaaaGreatPal
import Derived.Test.YtcfccblpcngeaaaGreatPam
import Derived.Test.YtcfccblpcngeaaaGreatPaj
import Derived.Test.YtcfccblpcngeaaaGreatPab
import Derived.BigQuiet
import Derived.Test.YtcfccblpcngeaaaGreatPah
import Derived.Test.YtcfccblpcngeaaaGreatPad
namespace Go.Proofs.YtcfccblpcngeaaaGreat
open Go.RowKit
def Far (x:Int):Prop:=x < -1073741824∨1073741824 < x
instance (x:Int):Decidable (Far x):=by unfold Far; infer_instance
end Go.Proofs.YtcfccblpcngeaaaGreat
