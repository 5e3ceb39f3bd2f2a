/- Of what DecShiftsRow stands on: Knob. -/
import Derived.Test.YtdbmdhfjmdlihaaDoorPab
import Derived.ProofKit
import Derived.OpenShut
import Derived.ChangeOld
import Derived.ChangeSame
import Derived.ChangeSlices
import Derived.Below
namespace Go.Proofs.YtdbmdhfjmdlihaaDoor
open Go.ChangeShapes Go.WideShapes Go.ChangeAt Go.RowKit
set_option maxRecDepth 100000
theorem laidOut:laidOutB Tryd.prog = true:=by kernel_rfl
theorem own_knob:ownKnob Tryd.prog.godebug = none:=by kernel_rfl
end Go.Proofs.YtdbmdhfjmdlihaaDoor
