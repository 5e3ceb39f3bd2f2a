/- Of what PowerNoneRow stands on: PwTied. -/
import Derived.Test.YteblliofeaahmaaDoorRows
import Derived.Test.YteblliofeaahmaaDoorPac
import Derived.Test.YteblliofeaahmaaDoorPah
import Derived.Lib.LaidTab
import Derived.LaidLaws
import Derived.LaidHandle
import Derived.LaidSub
import Derived.ChangeVars
namespace Go.Proofs.YteblliofeaahmaaDoor
open Go.ChangeShapes Go.WideShapes Go.ChangeAt Go.RowKit
def fiveInts:List Int:=[1,5,25,125,625,3125,15625,78125,390625,1953125,9765625,48828125,244140625,1220703125,6103515625,30517578125,152587890625,762939453125,3814697265625,19073486328125,95367431640625,476837158203125,2384185791015625,11920928955078125,59604644775390625,298023223876953125,1490116119384765625,7450580596923828125]
noncomputable def laidWorldF (os:Go.Os):World:=
 { World.holding Tryd.prog os ⟨#[],#[],[]⟩ with heap:=(World.holding Tryd.prog os ⟨#[],#[],[]⟩).heap.modify 0 fun
   | .cells _ t frozen=>.cells (fiveInts.map fun z=>Value.int .u64 z).toArray t frozen
   | o=>o }
theorem laidWorldF_met (os : Go.Os) (args : Array Value) : laidMetH Tryd.prog [("numeral/power.fives", Rows.laid_numeral_power_fives)] ((laidWorldF os).forCall (fun _ _ => 0) ⟨#[], args, []⟩).memory :=
 laidMetH_of_parts (laidMet_of_run' 8 (by kernel_rfl) (by kernel_rfl)) (by kernel_rfl)
end Go.Proofs.YteblliofeaahmaaDoor
