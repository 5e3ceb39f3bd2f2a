/- Of what QuickRightRow stands on: ExTied. -/
import Derived.Test.YtdekhacomggpgaaGreatDoorRows
import Derived.Test.YtdekhacomggpgaaGreatDoorPac
import Derived.Test.YtdekhacomggpgaaGreatDoorPak
import Derived.Lib.LaidTab
import Derived.LaidLaws
import Derived.LaidHandle
import Derived.LaidSub
import Derived.ChangeVars
namespace Go.Proofs.YtdekhacomggpgaaGreatDoor
open Go.ChangeShapes Go.WideShapes Go.ChangeAt Go.RowKit
theorem Tryz.gTab : Tryz.prog.globalNamed "math/bits.deBruijn32tab" = some 3 := by kernel_rfl
theorem Tryz.gTabType:(Tryz.prog.globals[3]?).map (·.type) = some 192:=by kernel_rfl
theorem Tryz.tabUnder:Tryz.prog.underlying 192 = some (.array 32 5):=by kernel_rfl
theorem Tryz.byteUnder:Tryz.prog.underlying 5 = some (.int .u8):=by kernel_rfl
theorem Tryz.byteCells:Tryz.prog.cellsOf 5 = 1:=by kernel_rfl
theorem Tryz.tabCells:Tryz.prog.cellsOf 192 = 32:=by kernel_rfl
def tabInts:List Int:=Lib.deBruijn32tab.map Int.ofNat
theorem tb_of_laid {W : World} (h : laidMetH Tryz.prog [("math/bits.deBruijn32tab", Rows.laid_math_bits_deBruijn32tab)] W) : Tb W := by
 have h1 : laidMet Tryz.prog [("math/bits.deBruijn32tab", Lib.tabData .u8 tabInts)] W := (laidMetH_iff.1 h).1
 have h2:=Lib.tabIs_of_head Tryz.gTab Tryz.gTabType Tryz.tabUnder Tryz.byteUnder Tryz.byteCells Tryz.tabCells h1
 have hc:∀ j,j < 32→W.cell? ⟨3,j,none⟩ = some (.int .u8 ((Lib.deBruijn32tab.getD j 0:Nat):Int)):=fun j hj=>by
  have h3:=h2.cell Tryz.gTab j (by exact hj)
  rw [h3]
  have h4:j < Lib.deBruijn32tab.length:=hj
  simp [tabInts,h4]
 exact ⟨World.block_lt_of_cell? W ⟨3,0,none⟩ (hc 0 (by decide)),hc⟩
noncomputable def laidWorld (os:Os):World:=
 { World.holding Tryz.prog os ⟨#[],#[],[]⟩ with heap:=(World.holding Tryz.prog os ⟨#[],#[],[]⟩).heap.modify 3 fun
   | .cells _ t frozen=>.cells (tabInts.map fun z=>Value.int .u8 z).toArray t frozen
   | o=>o }
theorem laidWorld_met (os : Os) (args : Array Value) : laidMetH Tryz.prog [("math/bits.deBruijn32tab", Rows.laid_math_bits_deBruijn32tab)] ((laidWorld os).forCall (fun _ _ => 0) ⟨#[], args, []⟩).memory :=
 laidMetH_of_parts (laidMet_of_run' 8 (by kernel_rfl) (by kernel_rfl)) (by kernel_rfl)
end Go.Proofs.YtdekhacomggpgaaGreatDoor
