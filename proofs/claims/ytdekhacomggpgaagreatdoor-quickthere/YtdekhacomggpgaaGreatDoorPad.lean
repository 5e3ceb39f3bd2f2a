/- Of what QuickThereRow stands on: FmFrame. -/
import Derived.Test.YtdekhacomggpgaaGreatDoorPab
import Derived.Test.YtdekhacomggpgaaGreatDoorPac
import Derived.ProofKit
import Derived.OpenShut
import Derived.ChangeOld
import Derived.ChangeSame
import Derived.ChangeSlices
import Derived.Below
import Derived.Deep.Strs
namespace Go.Proofs.YtdekhacomggpgaaGreatDoor
open Go.ChangeShapes Go.WideShapes Go.ChangeAt Go.RowKit
theorem u64_wf {n:Int} (h:(Lit.int .u64 n).wf = true):∃ m:Nat,n = (m:Int)∧m < 18446744073709551616:=by
 simp [Lit.wf,IntKind.min,IntKind.max,IntKind.signed,IntKind.bits] at h
 exact ⟨n.toNat,by omega,by omega⟩
end Go.Proofs.YtdekhacomggpgaaGreatDoor
