/- Of what QuickThereRow stands on: DcTied. -/
import Derived.Test.YtdekhacomggpgaaGreatDoorRows
import Derived.Test.YtdekhacomggpgaaGreatDoorPac
import Derived.Test.YtdekhacomggpgaaGreatDoorPag
import Derived.Lib.LaidTab
import Derived.LaidLaws
import Derived.LaidHandle
import Derived.LaidSub
import Derived.ChangeVars
namespace Go.Proofs.YtdekhacomggpgaaGreatDoor
open Go.ChangeShapes Go.WideShapes Go.ChangeAt Go.RowKit
theorem Tryz.gPow : Tryz.prog.globalNamed "internal/strconv.uint64pow10" = some 1 := by kernel_rfl
theorem Tryz.gPowType:(Tryz.prog.globals[1]?).map (·.type) = some 148:=by kernel_rfl
theorem Tryz.powUnder:Tryz.prog.underlying 148 = some (.array 20 40):=by kernel_rfl
theorem Tryz.u64Under:Tryz.prog.underlying 40 = some (.int .u64):=by kernel_rfl
theorem Tryz.u64Cells:Tryz.prog.cellsOf 40 = 1:=by kernel_rfl
theorem Tryz.powCells:Tryz.prog.cellsOf 148 = 20:=by kernel_rfl
def laidT : List (String × DataW Unit) := [("math/bits.deBruijn32tab", Rows.laid_math_bits_deBruijn32tab), ("math/bits.deBruijn64tab", Rows.laid_math_bits_deBruijn64tab), ("internal/strconv.uint64pow10", Rows.laid_internal_strconv_uint64pow10)]
theorem laidT_pow : laidT.filter (fun x => x.1 == "internal/strconv.uint64pow10") = [("internal/strconv.uint64pow10", Lib.tabData .u64 Lib.pow10Tab)] := by kernel_rfl
theorem tp_of_laid {W:World} (h:laidMetH Tryz.prog laidT W):Tp W:=by
 have h1:laidMet Tryz.prog laidT W:=(laidMetH_iff.1 h).1
 have h2 := h1.filter (fun x => x.1 == "internal/strconv.uint64pow10")
 rw [laidT_pow] at h2
 exact Lib.tabIs_of_head Tryz.gPow Tryz.gPowType Tryz.powUnder Tryz.u64Under Tryz.u64Cells Tryz.powCells h2
def litInts:DataW Unit→List Value
 | .agg l=>l.map fun
  | .lit (.int k z)=>Value.int k z
  | _=>.bool false
 | _=>[]
def layAs (d:DataW Unit):Obj→Obj
 | .cells _ t frozen=>.cells (litInts d).toArray t frozen
 | o=>o
noncomputable def laidWorldT (os:Go.Os):World:=
 { World.holding Tryz.prog os ⟨#[],#[],[]⟩ with heap:=(((World.holding Tryz.prog os ⟨#[],#[],[]⟩).heap.modify 3 (layAs Rows.laid_math_bits_deBruijn32tab)).modify 4 (layAs Rows.laid_math_bits_deBruijn64tab)).modify 1 (layAs Rows.laid_internal_strconv_uint64pow10) }
theorem laidWorldT_met (os:Go.Os) (args:Array Value):laidMetH Tryz.prog laidT ((laidWorldT os).forCall (fun _ _=>0) ⟨#[],args,[]⟩).memory:=
 laidMetH_of_parts (laidMet_of_run' 8 (by kernel_rfl) (by kernel_rfl)) (by kernel_rfl)
end Go.Proofs.YtdekhacomggpgaaGreatDoor
