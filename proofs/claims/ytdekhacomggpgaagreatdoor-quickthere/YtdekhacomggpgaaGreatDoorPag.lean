/- Of what QuickThereRow stands on: DcItoa. -/
import Derived.Test.YtdekhacomggpgaaGreatDoorPaf
import Derived.Shelf.Strconv.Itoa3
import Derived.Lib.AppendIntMem
namespace Go.Proofs.YtdekhacomggpgaaGreatDoor
open Go.RowKit
def Tp (w : World) : Prop := Lib.TabIs Tryz.prog w "internal/strconv.uint64pow10" .u64 Lib.pow10Tab
theorem Tp.kept {w w':World} (h:Tp w) (hb:Below w.heap.size w w'):Tp w':=Lib.tabBelow_of_tabIs h w' hb
end Go.Proofs.YtdekhacomggpgaaGreatDoor
