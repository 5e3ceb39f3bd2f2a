/- Of what NearRoundsRow stands on: TnFrame. -/
import Derived.Test.YtaidedkpfnidpaaGreatDoorPbm
namespace Go.Proofs.YtaidedkpfnidpaaGreatDoor
open Go.RowKit
theorem Jf{n:Int}(h:(Lit.int .u8 n).wf=true):∃m:Nat,n=(m:Int)∧m<256:=by
 simp [Lit.wf,IntKind.min,IntKind.max,IntKind.signed,IntKind.bits] at h;exact ⟨n.toNat,by omega,by omega⟩
end Go.Proofs.YtaidedkpfnidpaaGreatDoor
