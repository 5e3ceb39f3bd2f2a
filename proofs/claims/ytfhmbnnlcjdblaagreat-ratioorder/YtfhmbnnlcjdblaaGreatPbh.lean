/- Of what RatioOrderRow stands on: RefUpDown ExCheck. -/
import Derived.Test.YtfhmbnnlcjdblaaGreatPbg
import Derived.Test.YtfhmbnnlcjdblaaGreatPai
import Derived.Test.YtfhmbnnlcjdblaaGreatPah
import Derived.Test.YtfhmbnnlcjdblaaGreatPab
import Derived.BigQuiet
import Derived.Test.YtfhmbnnlcjdblaaGreatPbd
import Derived.Test.YtfhmbnnlcjdblaaGreatPad
namespace Go.Proofs.YtfhmbnnlcjdblaaGreat
open Go.RowKit
def Far (x:Int):Prop:=x < -1073741824∨1073741824 < x
instance (x:Int):Decidable (Far x):=by unfold Far; infer_instance
end Go.Proofs.YtfhmbnnlcjdblaaGreat
