/- Of what QuickSureRow stands on: FmFrame TnFrame. -/
import Derived.Test.YtohjmjlfmloiaaaDoorPab
import Derived.Test.YtohjmjlfmloiaaaDoorPac
import Derived.ProofKit
import Derived.OpenShut
import Derived.ChangeOld
import Derived.ChangeSame
import Derived.ChangeSlices
import Derived.Below
import Derived.Deep.Strs
namespace Go.Proofs.YtohjmjlfmloiaaaDoor
open Go.ChangeShapes Go.WideShapes Go.ChangeAt Go.RowKit
open Go.RowKit
theorem u64_wf {n:Int} (h:(Lit.int .u64 n).wf = true):∃ m:Nat,n = (m:Int)∧m < 18446744073709551616:=by
 simp [Lit.wf,IntKind.min,IntKind.max,IntKind.signed,IntKind.bits] at h
 exact ⟨n.toNat,by omega,by omega⟩
theorem i64_bd {n:Int} (h:(Lit.int .i64 n).wf = true):-9223372036854775808≤n∧n < 9223372036854775808:=by
 simp [Lit.wf,IntKind.min,IntKind.max,IntKind.signed,IntKind.bits] at h
 omega
end Go.Proofs.YtohjmjlfmloiaaaDoor
