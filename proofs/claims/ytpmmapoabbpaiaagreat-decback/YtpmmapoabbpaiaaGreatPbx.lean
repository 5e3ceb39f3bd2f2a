/- Of what DecBackRow stands on: Frame FrameS. -/
import Derived.Test.YtpmmapoabbpaiaaGreatPan
import Derived.Test.YtpmmapoabbpaiaaGreatPac
import Derived.ProofKit
import Derived.OpenShut
import Derived.ChangeOld
import Derived.ChangeSame
import Derived.ChangeSlices
import Derived.Below
import Derived.SizedLaws
namespace Go.Proofs.YtpmmapoabbpaiaaGreat
open Go.ChangeShapes Go.WideShapes Go.ChangeAt Go.RowKit
theorem toNat_list (zs:List Int) (h:∀ n∈zs,(Lit.int .u32 n).wf = true):∀ (j:Nat),j < zs.length→(((zs.map Int.toNat)[j]?.getD 0:Nat):Int) = zs.getD j 0∧(zs.map Int.toNat)[j]?.getD 0 < 4294967296:=by
 intro j hj
 have hm:=h zs[j] (List.getElem_mem hj)
 simp [Lit.wf,IntKind.min,IntKind.max,IntKind.signed,IntKind.bits] at hm
 rw [List.getElem?_map,List.getElem?_eq_getElem hj,List.getD_eq_getElem?_getD,List.getElem?_eq_getElem hj]
 simp
 omega
theorem Tryz.bytes_limb:Tryz.prog.bytesOf 64 = 4:=by kernel_rfl
end Go.Proofs.YtpmmapoabbpaiaaGreat
