/- Of what DecBackRow stands on: FmFrame TnFrame. -/
import Derived.Test.YtpmmapoabbpaiaaGreatPab
import Derived.Test.YtpmmapoabbpaiaaGreatPac
import Derived.ProofKit
import Derived.OpenShut
import Derived.ChangeOld
import Derived.ChangeSame
import Derived.ChangeSlices
import Derived.Below
import Derived.Deep.Strs
namespace Go.Proofs.YtpmmapoabbpaiaaGreat
open Go.ChangeShapes Go.WideShapes Go.ChangeAt Go.RowKit
open Go.RowKit
theorem i64_wf {n:Int} (h:(Lit.int .i64 n).wf = true):-9223372036854775808≤n∧n < 9223372036854775808:=by
 simp [Lit.wf,IntKind.min,IntKind.max,IntKind.signed,IntKind.bits] at h
 omega
end Go.Proofs.YtpmmapoabbpaiaaGreat
