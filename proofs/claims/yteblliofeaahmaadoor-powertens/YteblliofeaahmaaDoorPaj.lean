/- Of what PowerTensRow stands on: PwTied. -/
import Derived.Test.YteblliofeaahmaaDoorRows
import Derived.Test.YteblliofeaahmaaDoorPac
import Derived.Test.YteblliofeaahmaaDoorPai
import Derived.Lib.LaidTab
import Derived.LaidLaws
import Derived.LaidHandle
import Derived.LaidSub
import Derived.ChangeVars
namespace Go.Proofs.YteblliofeaahmaaDoor
open Go.ChangeShapes Go.WideShapes Go.ChangeAt Go.RowKit
theorem Tryd.gFive : Tryd.prog.globalNamed "numeral/power.fives" = some 0 := by kernel_rfl
theorem Tryd.gFiveType:(Tryd.prog.globals[0]?).map (·.type) = some 83:=by kernel_rfl
theorem Tryd.fiveUnder:Tryd.prog.underlying 83 = some (.array 28 22):=by kernel_rfl
theorem Tryd.u64Under:Tryd.prog.underlying 22 = some (.int .u64):=by kernel_rfl
theorem Tryd.u64Cells:Tryd.prog.cellsOf 22 = 1:=by kernel_rfl
theorem Tryd.fiveCells:Tryd.prog.cellsOf 83 = 28:=by kernel_rfl
def fiveInts:List Int:=[1,5,25,125,625,3125,15625,78125,390625,1953125,9765625,48828125,244140625,1220703125,6103515625,30517578125,152587890625,762939453125,3814697265625,19073486328125,95367431640625,476837158203125,2384185791015625,11920928955078125,59604644775390625,298023223876953125,1490116119384765625,7450580596923828125]
theorem five_at:∀ j:Fin 28,fiveInts.getD j.val 0 = ((5 ^ j.val:Nat):Int):=by decide +kernel
theorem fv_of_laid {W : World} (h : laidMetH Tryd.prog [("numeral/power.fives", Rows.laid_numeral_power_fives)] W) : Fv W := by
 have h1 : laidMet Tryd.prog [("numeral/power.fives", Lib.tabData .u64 fiveInts)] W := (laidMetH_iff.1 h).1
 have h2:=Lib.tabIs_of_head Tryd.gFive Tryd.gFiveType Tryd.fiveUnder Tryd.u64Under Tryd.u64Cells Tryd.fiveCells h1
 have hc:∀ j,j < 28→W.cell? ⟨0,j,none⟩ = some (.int .u64 ((5 ^ j:Nat):Int)):=fun j hj=>by
  have h3:=h2.cell Tryd.gFive j (by exact hj)
  rw [h3]
  have h4:=five_at ⟨j,hj⟩
  rw [h4]
 exact ⟨World.block_lt_of_cell? W ⟨0,0,none⟩ (hc 0 (by decide)),hc⟩
noncomputable def laidWorldF (os:Go.Os):World:=
 { World.holding Tryd.prog os ⟨#[],#[],[]⟩ with heap:=(World.holding Tryd.prog os ⟨#[],#[],[]⟩).heap.modify 0 fun
   | .cells _ t frozen=>.cells (fiveInts.map fun z=>Value.int .u64 z).toArray t frozen
   | o=>o }
theorem laidWorldF_met (os : Go.Os) (args : Array Value) : laidMetH Tryd.prog [("numeral/power.fives", Rows.laid_numeral_power_fives)] ((laidWorldF os).forCall (fun _ _ => 0) ⟨#[], args, []⟩).memory :=
 laidMetH_of_parts (laidMet_of_run' 8 (by kernel_rfl) (by kernel_rfl)) (by kernel_rfl)
end Go.Proofs.YteblliofeaahmaaDoor
