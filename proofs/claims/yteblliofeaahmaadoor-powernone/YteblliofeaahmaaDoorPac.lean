/- Of what PowerNoneRow stands on: Knob. -/
import Derived.Test.YteblliofeaahmaaDoorPab
import Derived.ProofKit
import Derived.OpenShut
import Derived.ChangeOld
import Derived.ChangeSame
import Derived.ChangeSlices
import Derived.Below
namespace Go.Proofs.YteblliofeaahmaaDoor
open Go.ChangeShapes Go.WideShapes Go.ChangeAt Go.RowKit
set_option maxRecDepth 100000
theorem own_knob:ownKnob Tryd.prog.godebug = none:=by kernel_rfl
end Go.Proofs.YteblliofeaahmaaDoor
