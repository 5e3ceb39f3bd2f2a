/- Of what QuickThereRow stands on: QkTied. -/
import Derived.Test.YtdekhacomggpgaaGreatDoorPah
import Derived.Test.YtdekhacomggpgaaGreatDoorPby
namespace Go.Proofs.YtdekhacomggpgaaGreatDoor
open Go.ChangeShapes Go.WideShapes Go.ChangeAt Go.RowKit
theorem laidT_tab : laidT.filter (fun x => x.1 == "math/bits.deBruijn32tab") = [("math/bits.deBruijn32tab", Lib.tabData .u8 tabInts)] := by kernel_rfl
theorem tbT_of_laid {W:World} (h:laidMetH Tryz.prog laidT W):Tb W:=by
 have h1:laidMet Tryz.prog laidT W:=(laidMetH_iff.1 h).1
 have h2 := h1.filter (fun x => x.1 == "math/bits.deBruijn32tab")
 rw [laidT_tab] at h2
 have h3:=Lib.tabIs_of_head Tryz.gTab Tryz.gTabType Tryz.tabUnder Tryz.byteUnder Tryz.byteCells Tryz.tabCells h2
 have hc:∀ j,j < 32→W.cell? ⟨3,j,none⟩ = some (.int .u8 ((Lib.deBruijn32tab.getD j 0:Nat):Int)):=fun j hj=>by
  have h4:=h3.cell Tryz.gTab j (by exact hj)
  rw [h4]
  have h5:j < Lib.deBruijn32tab.length:=hj
  simp [tabInts,h5]
 exact ⟨World.block_lt_of_cell? W ⟨3,0,none⟩ (hc 0 (by decide)),hc⟩
end Go.Proofs.YtdekhacomggpgaaGreatDoor
