/- Of what DecBackRow stands on: Knob. -/
import Derived.Test.YtpmmapoabbpaiaaGreatPab
import Derived.ProofKit
import Derived.OpenShut
import Derived.ChangeOld
import Derived.ChangeSame
import Derived.ChangeSlices
import Derived.Below
namespace Go.Proofs.YtpmmapoabbpaiaaGreat
open Go.ChangeShapes Go.WideShapes Go.ChangeAt Go.RowKit
set_option maxRecDepth 100000
theorem laidOut:laidOutB Tryz.prog = true:=by kernel_rfl
theorem own_knob:ownKnob Tryz.prog.godebug = none:=by kernel_rfl
end Go.Proofs.YtpmmapoabbpaiaaGreat
