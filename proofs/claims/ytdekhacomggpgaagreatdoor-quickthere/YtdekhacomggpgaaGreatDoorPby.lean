/- Of what QuickThereRow stands on: ExTied. -/
import Derived.Test.YtdekhacomggpgaaGreatDoorRows
import Derived.Test.YtdekhacomggpgaaGreatDoorPac
import Derived.Test.YtdekhacomggpgaaGreatDoorPay
import Derived.Lib.LaidTab
import Derived.LaidLaws
import Derived.LaidHandle
import Derived.LaidSub
import Derived.ChangeVars
namespace Go.Proofs.YtdekhacomggpgaaGreatDoor
open Go.ChangeShapes Go.WideShapes Go.ChangeAt Go.RowKit
theorem Tryz.gTab : Tryz.prog.globalNamed "math/bits.deBruijn32tab" = some 3 := by kernel_rfl
theorem Tryz.gTabType:(Tryz.prog.globals[3]?).map (·.type) = some 192:=by kernel_rfl
theorem Tryz.tabUnder:Tryz.prog.underlying 192 = some (.array 32 5):=by kernel_rfl
theorem Tryz.byteUnder:Tryz.prog.underlying 5 = some (.int .u8):=by kernel_rfl
theorem Tryz.byteCells:Tryz.prog.cellsOf 5 = 1:=by kernel_rfl
theorem Tryz.tabCells:Tryz.prog.cellsOf 192 = 32:=by kernel_rfl
def tabInts:List Int:=Lib.deBruijn32tab.map Int.ofNat
end Go.Proofs.YtdekhacomggpgaaGreatDoor
