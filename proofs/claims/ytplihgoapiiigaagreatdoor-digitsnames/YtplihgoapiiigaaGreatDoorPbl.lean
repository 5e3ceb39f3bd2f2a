/- Of what DigitsNamesRow stands on: Knob DcTied DgNaLaw ExTied QkTied. -/
import Derived.Test.YtplihgoapiiigaaGreatDoorPab
import Derived.ProofKit
import Derived.OpenShut
import Derived.ChangeOld
import Derived.ChangeSame
import Derived.ChangeSlices
import Derived.Below
import Derived.Test.YtplihgoapiiigaaGreatDoorRows
import Derived.Test.YtplihgoapiiigaaGreatDoorPbk
import Derived.Lib.LaidTab
import Derived.LaidLaws
import Derived.LaidHandle
import Derived.LaidSub
import Derived.ChangeVars
import Derived.Test.YtplihgoapiiigaaGreatDoorPam
namespace Go.Proofs.YtplihgoapiiigaaGreatDoor
open Go.ChangeShapes Go.WideShapes Go.ChangeAt Go.RowKit
open Go.RowKit
set_option maxRecDepth 100000
theorem own_knob:ownKnob Tryz.prog.godebug = none:=by kernel_rfl
theorem Tryz.gPow : Tryz.prog.globalNamed "internal/strconv.uint64pow10" = some 1 := by kernel_rfl
theorem Tryz.gPowType:(Tryz.prog.globals[1]?).map (·.type) = some 175:=by kernel_rfl
theorem Tryz.powUnder:Tryz.prog.underlying 175 = some (.array 20 28):=by kernel_rfl
theorem Tryz.u64Under:Tryz.prog.underlying 28 = some (.int .u64):=by kernel_rfl
theorem Tryz.u64Cells:Tryz.prog.cellsOf 28 = 1:=by kernel_rfl
theorem Tryz.powCells:Tryz.prog.cellsOf 175 = 20:=by kernel_rfl
def laidT : List (String × DataW Unit) := [("math/bits.deBruijn32tab", Rows.laid_math_bits_deBruijn32tab), ("math/bits.deBruijn64tab", Rows.laid_math_bits_deBruijn64tab), ("internal/strconv.uint64pow10", Rows.laid_internal_strconv_uint64pow10)]
theorem laidT_pow : laidT.filter (fun x => x.1 == "internal/strconv.uint64pow10") = [("internal/strconv.uint64pow10", Lib.tabData .u64 Lib.pow10Tab)] := by kernel_rfl
theorem tp_of_laid {W:World} (h:laidMetH Tryz.prog laidT W):Tp W:=by
 have h1:laidMet Tryz.prog laidT W:=(laidMetH_iff.1 h).1
 have h2 := h1.filter (fun x => x.1 == "internal/strconv.uint64pow10")
 rw [laidT_pow] at h2
 exact Lib.tabIs_of_head Tryz.gPow Tryz.gPowType Tryz.powUnder Tryz.u64Under Tryz.u64Cells Tryz.powCells h2
def litInts:DataW Unit→List Value
 | .agg l=>l.map fun
  | .lit (.int k z)=>Value.int k z
  | _=>.bool false
 | _=>[]
def layAs (d:DataW Unit):Obj→Obj
 | .cells _ t frozen=>.cells (litInts d).toArray t frozen
 | o=>o
noncomputable def laidWorldT (os:Go.Os):World:=
 { World.holding Tryz.prog os ⟨#[],#[],[]⟩ with heap:=(((World.holding Tryz.prog os ⟨#[],#[],[]⟩).heap.modify 0 (layAs Rows.laid_math_bits_deBruijn32tab)).modify 3 (layAs Rows.laid_math_bits_deBruijn64tab)).modify 1 (layAs Rows.laid_internal_strconv_uint64pow10) }
theorem laidWorldT_met (os:Go.Os) (args:Array Value):laidMetH Tryz.prog laidT ((laidWorldT os).forCall (fun _ _=>0) ⟨#[],args,[]⟩).memory:=
 laidMetH_of_parts (laidMet_of_run' 8 (by kernel_rfl) (by kernel_rfl)) (by kernel_rfl)
theorem digitsNames_any (w:World) (htp:Tpw w) (hT:Tb w) :
  Calls Tryz.prog 3 #[] w fun e w'=>e = .returned (.bool true)∧Below w.heap.size w w':=by
 have HL:=hide dgalive2_any
 obtain ⟨G,hG⟩:∃ G,G = 1074:=⟨_,rfl⟩
 have hG2:(G:Int) = 1074:=by omega
 obtain ⟨t,a1,a2,a3,a4⟩:=sub_odd hG 4503599627370495 (by decide) (by decide)
 obtain ⟨u,b1,b2,b3,b4⟩:=sub_odd hG 1 (by decide) (by decide)
 have hc:=count_767 hG a1 a3 a2
 have k1:=b1.chk false
 rw [hG2] at a1 b1 a4 b4 k1
 clear a2 b2 hG hG2
 obtain ⟨en,su,hF⟩:=forms_fn
 refine dnal w en su u hT htp HL (hide fun W hT htp=>?_) (hide fun W hT htp=>?_) (hide fun W hT htp=>?_) (hide fun W hT htp=>?_) (hide fun W hT htp=>?_) (hide hF)
 ·have:=dcount_ok W 11 52 ((4503599627370495:Nat):Int) false t (-1074) hT htp (hide a4)
  rw [hc] at this
  exact this
 ·have h4:∀ W:World,Calls Tryz.prog 13 #[.agg #[.bool false,.string u,.int .i64 (-1074)],.int .i64 ((2000:Nat):Int),.int .u8 ((0:Nat):Int)] W fun e W'=>e = .returned (.tuple #[.agg #[.bool false,.string u,.int .i64 (-1074)],.bool true,.int .i64 0])∧Below W.heap.size W W':=by
   rcases places_num false u (-1074) 2000 0 b1 (by decide) (by decide) k1 with ⟨_,h⟩|⟨c,_,_,_,_,_,_,_,h5,h6,_⟩
   ·exact h
   ·omega
  exact dplaces_ok W 11 52 ((1:Nat):Int) ((2000:Nat):Int) ((0:Nat):Int) false false true u u (-1074) (-1074) 0 hT htp (hide b4) (hide h4)
 ·exact dplaces_ok W 11 52 ((1:Nat):Int) 2001 ((9:Nat):Int) false false false u ⟨#[]⟩ (-1074) 0 101 hT htp (hide b4) (hide fun W=>dplaces_err W false u (-1074) 2001 9 101 (by decide) (hide fun W=>ask_hi W false u (-1074) 2001 0 9 (by decide) (by decide) (hide k1)))
 ·exact dsome_ok W 11 52 ((1:Nat):Int) 2001 ((9:Nat):Int) false false false u ⟨#[]⟩ (-1074) 0 101 hT htp (hide b4) (hide fun W=>dround_err W false u (-1074) 2001 9 101 (by decide) (hide fun W=>ask_hi W false u (-1074) 2001 1 9 (by decide) (by decide) (hide k1)))
 ·exact dsome_ok W 11 52 ((1:Nat):Int) 0 ((9:Nat):Int) false false false u ⟨#[]⟩ (-1074) 0 101 hT htp (hide b4) (hide fun W=>dround_err W false u (-1074) 0 9 101 (by decide) (hide fun W=>ask_lo W false u (-1074) 0 1 9 (by decide) (hide k1)))
theorem Tryz.gTab : Tryz.prog.globalNamed "math/bits.deBruijn32tab" = some 0 := by kernel_rfl
theorem Tryz.gTabType:(Tryz.prog.globals[0]?).map (·.type) = some 160:=by kernel_rfl
theorem Tryz.tabUnder:Tryz.prog.underlying 160 = some (.array 32 5):=by kernel_rfl
theorem Tryz.byteUnder:Tryz.prog.underlying 5 = some (.int .u8):=by kernel_rfl
theorem Tryz.byteCells:Tryz.prog.cellsOf 5 = 1:=by kernel_rfl
theorem Tryz.tabCells:Tryz.prog.cellsOf 160 = 32:=by kernel_rfl
def tabInts:List Int:=Lib.deBruijn32tab.map Int.ofNat
theorem laidT_tab : laidT.filter (fun x => x.1 == "math/bits.deBruijn32tab") = [("math/bits.deBruijn32tab", Lib.tabData .u8 tabInts)] := by kernel_rfl
theorem tbT_of_laid {W:World} (h:laidMetH Tryz.prog laidT W):Tb W:=by
 have h1:laidMet Tryz.prog laidT W:=(laidMetH_iff.1 h).1
 have h2 := h1.filter (fun x => x.1 == "math/bits.deBruijn32tab")
 rw [laidT_tab] at h2
 have h3:=Lib.tabIs_of_head Tryz.gTab Tryz.gTabType Tryz.tabUnder Tryz.byteUnder Tryz.byteCells Tryz.tabCells h2
 have hc:∀ j,j < 32→W.cell? ⟨0,j,none⟩ = some (.int .u8 ((Lib.deBruijn32tab.getD j 0:Nat):Int)):=fun j hj=>by
  have h4:=h3.cell Tryz.gTab j (by exact hj)
  rw [h4]
  have h5:j < Lib.deBruijn32tab.length:=hj
  simp [tabInts,h5]
 exact ⟨World.block_lt_of_cell? W ⟨0,0,none⟩ (hc 0 (by decide)),hc⟩
end Go.Proofs.YtplihgoapiiigaaGreatDoor
