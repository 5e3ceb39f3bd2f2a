/- Of what RoundNamedRow stands on: FmFrame TnFrame. -/
import Derived.Test.YtcclpafdkgnmiaaGreatDoorPab
import Derived.Test.YtcclpafdkgnmiaaGreatDoorPac
import Derived.ProofKit
import Derived.OpenShut
import Derived.ChangeOld
import Derived.ChangeSame
import Derived.ChangeSlices
import Derived.Below
import Derived.Deep.Strs
namespace Go.Proofs.YtcclpafdkgnmiaaGreatDoor
open Go.ChangeShapes Go.WideShapes Go.ChangeAt Go.RowKit
open Go.RowKit
theorem u8_wf {n:Int} (h:(Lit.int .u8 n).wf = true):∃ m:Nat,n = (m:Int)∧m < 256:=by
 simp [Lit.wf,IntKind.min,IntKind.max,IntKind.signed,IntKind.bits] at h
 exact ⟨n.toNat,by omega,by omega⟩
end Go.Proofs.YtcclpafdkgnmiaaGreatDoor
