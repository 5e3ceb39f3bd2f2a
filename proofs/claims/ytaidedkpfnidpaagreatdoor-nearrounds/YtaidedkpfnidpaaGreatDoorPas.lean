/- Of what NearRoundsRow stands on: Knob NrTied. -/
import Derived.ProofKit
import Derived.OpenShut
import Derived.ChangeOld
import Derived.ChangeSame
import Derived.ChangeSlices
import Derived.Below
import Derived.Test.YtaidedkpfnidpaaGreatDoorRows
import Derived.Test.YtaidedkpfnidpaaGreatDoorPai
import Derived.Test.YtaidedkpfnidpaaGreatDoorPar
import Derived.Lib.LaidTab
import Derived.LaidLaws
import Derived.LaidHandle
import Derived.LaidSub
import Derived.ChangeVars
namespace Go.Proofs.YtaidedkpfnidpaaGreatDoor
open Go.ChangeShapes Go.WideShapes Go.ChangeAt Go.RowKit
set_option maxRecDepth 100000
theorem laidOut:laidOutB Tryz.prog=true:=by kernel_rfl
theorem CL:ownKnob Tryz.prog.godebug=none:=by kernel_rfl
theorem Tryz.gTab : Tryz.prog.globalNamed "math/bits.deBruijn32tab" = some 1 := by kernel_rfl
theorem Tryz.gTabType:(Tryz.prog.globals[1]?).map (·.type)=some 208:=by kernel_rfl
theorem Tryz.tabUnder:Tryz.prog.underlying 208=some (.array 32 5):=by kernel_rfl
theorem Tryz.byteUnder:Tryz.prog.underlying 5=some (.int .u8):=by kernel_rfl
theorem Tryz.byteCells:Tryz.prog.cellsOf 5=1:=by kernel_rfl
theorem Tryz.tabCells:Tryz.prog.cellsOf 208=32:=by kernel_rfl
theorem Tryz.gNames : Tryz.prog.globalNamed "numeral/round.names" = some 0 := by kernel_rfl
theorem Tryz.gNamesType:(Tryz.prog.globals[0]?).map (·.type)=some 106:=by kernel_rfl
theorem Tryz.namesUnder:Tryz.prog.underlying 106=some (.array 5 9):=by kernel_rfl
theorem Tryz.strUnder:Tryz.prog.underlying 9=some .string:=by kernel_rfl
theorem Tryz.strCells:Tryz.prog.cellsOf 9=1:=by kernel_rfl
theorem Tryz.namesCells:Tryz.prog.cellsOf 106=5:=by kernel_rfl
def pu:List Int:=Lib.deBruijn32tab.map Int.ofNat
def qQ : List (String × DataW Unit) := [("math/bits.deBruijn32tab", Rows.laid_math_bits_deBruijn32tab), ("numeral/round.names", Rows.laid_numeral_round_names)]
theorem uz{W:World}(h:laidMetH Tryz.prog qQ W):Tb W:=by
 have h1 : laidMet Tryz.prog [("math/bits.deBruijn32tab", Lib.tabData .u8 pu), ("numeral/round.names", Rows.laid_numeral_round_names)] W := (laidMetH_iff.1 h).1
 have h2:=Lib.tabIs_of_head Tryz.gTab Tryz.gTabType Tryz.tabUnder Tryz.byteUnder Tryz.byteCells Tryz.tabCells h1;have hc:∀j,j<32→W.cell? ⟨1,j,none⟩=some (.int .u8 ((Lib.deBruijn32tab.getD j 0:Nat):Int)):=fun j hj=>by
  have h3:=h2.cell Tryz.gTab j (by exact hj);rw [h3];have h4:j<Lib.deBruijn32tab.length:=hj;simp [pu,h4]
 exact ⟨World.block_lt_of_cell? W ⟨1,0,none⟩ (hc 0 (by decide)),hc⟩
def CF:List Value:=[.string ⟨#[101,118,101,110]⟩,.string ⟨#[97,119,97,121]⟩,.string ⟨#[122,101,114,111]⟩,.string ⟨#[117,112]⟩,.string ⟨#[100,111,119,110]⟩]
def Fz:Obj→Obj
 | .cells _ t frozen=>.cells (pu.map fun z=>Value.int .u8 z).toArray t frozen
 | o=>o
def Br:Obj→Obj
 | .cells _ t frozen=>.cells CF.toArray t frozen
 | o=>o
noncomputable def nV(os:Go.Os):World:=
 { World.holding Tryz.prog os ⟨#[],#[],[]⟩ with heap:=((World.holding Tryz.prog os ⟨#[],#[],[]⟩).heap.modify 1 Fz).modify 0 Br }
theorem pI(os:Go.Os)(args:Array Value):laidMetH Tryz.prog qQ ((nV os).forCall (fun _ _=>0) ⟨#[],args,[]⟩).memory:=
 laidMetH_of_parts (laidMet_of_run' 8 (by kernel_rfl) (by kernel_rfl)) (by kernel_rfl)
end Go.Proofs.YtaidedkpfnidpaaGreatDoor
