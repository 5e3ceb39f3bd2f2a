/- Of what DigitsFormsRow stands on: Knob FmFrame DcTied ExTied QkTied. -/
import Derived.Test.YtnjgeccffjdheaaGreatDoorPab
import Derived.ProofKit
import Derived.OpenShut
import Derived.ChangeOld
import Derived.ChangeSame
import Derived.ChangeSlices
import Derived.Below
import Derived.Deep.Strs
import Derived.Test.YtnjgeccffjdheaaGreatDoorRows
import Derived.Test.YtnjgeccffjdheaaGreatDoorPbk
import Derived.Lib.LaidTab
import Derived.LaidLaws
import Derived.LaidHandle
import Derived.LaidSub
import Derived.ChangeVars
import Derived.Test.YtnjgeccffjdheaaGreatDoorPam
namespace Go.Proofs.YtnjgeccffjdheaaGreatDoor
open Go.ChangeShapes Go.WideShapes Go.ChangeAt Go.RowKit
set_option maxRecDepth 100000
theorem laidOut:laidOutB Tryz.prog = true:=by kernel_rfl
theorem own_knob:ownKnob Tryz.prog.godebug = none:=by kernel_rfl
theorem open_form {H:Type} {enc:TypeId×Value→H} {W:World} {base:Nat} {v:Value} {d:DataW H} {p:List MemPlace}
  (hok:Value.okWide Tryz.prog W .any base 23 v) (h:DataW.Trod enc Tryz.prog W 0 (fun _=>true) true 23 v d p):∃ E F:Int,v = .agg #[.int .i64 E,.int .i64 F]:=by
 obtain ⟨cs,rfl,hcs⟩:=okWide_struct Tryz.underlying23 hok
 obtain ⟨fuel,hf⟩:=h
 obtain ⟨y0,y1,m,_,hl,h0,h1⟩:=trod_struct2 Tryz.underlying23 hf
 have hc1:Tryz.prog.cellsOf 23 = 2:=by kernel_rfl
 have hc2:Tryz.prog.cellsOf 3 = 1:=by kernel_rfl
 rw [hc1] at hcs
 obtain ⟨c0,c1,rfl⟩:∃ c0 c1,cs = #[c0,c1]:=by
  match cs,hcs with
  | ⟨[a,b]⟩,_=>exact ⟨a,b,rfl⟩
 rw [hc2] at h0 h1
 obtain ⟨n0,e0,_,_⟩:=DataW.trod_int Tryz.underlying3 h0
 obtain ⟨n1,e1,_,_⟩:=DataW.trod_int Tryz.underlying3 h1
 simp [Value.cells] at e0 e1
 exact ⟨n0,n1,by rw [e0,e1]⟩
theorem Tryz.gPow : Tryz.prog.globalNamed "internal/strconv.uint64pow10" = some 1 := by kernel_rfl
theorem Tryz.gPowType:(Tryz.prog.globals[1]?).map (·.type) = some 174:=by kernel_rfl
theorem Tryz.powUnder:Tryz.prog.underlying 174 = some (.array 20 33):=by kernel_rfl
theorem Tryz.u64Under:Tryz.prog.underlying 33 = some (.int .u64):=by kernel_rfl
theorem Tryz.u64Cells:Tryz.prog.cellsOf 33 = 1:=by kernel_rfl
theorem Tryz.powCells:Tryz.prog.cellsOf 174 = 20:=by kernel_rfl
def laidT : List (String × DataW Unit) := [("math/bits.deBruijn32tab", Rows.laid_math_bits_deBruijn32tab), ("math/bits.deBruijn64tab", Rows.laid_math_bits_deBruijn64tab), ("internal/strconv.uint64pow10", Rows.laid_internal_strconv_uint64pow10)]
theorem laidT_pow : laidT.filter (fun x => x.1 == "internal/strconv.uint64pow10") = [("internal/strconv.uint64pow10", Lib.tabData .u64 Lib.pow10Tab)] := by kernel_rfl
theorem tp_of_laid {W:World} (h:laidMetH Tryz.prog laidT W):Tp W:=by
 have h1:laidMet Tryz.prog laidT W:=(laidMetH_iff.1 h).1
 have h2 := h1.filter (fun x => x.1 == "internal/strconv.uint64pow10")
 rw [laidT_pow] at h2
 exact Lib.tabIs_of_head Tryz.gPow Tryz.gPowType Tryz.powUnder Tryz.u64Under Tryz.u64Cells Tryz.powCells h2
def litInts:DataW Unit→List Value
 | .agg l=>l.map fun
  | .lit (.int k z)=>Value.int k z
  | _=>.bool false
 | _=>[]
def layAs (d:DataW Unit):Obj→Obj
 | .cells _ t frozen=>.cells (litInts d).toArray t frozen
 | o=>o
noncomputable def laidWorldT (os:Go.Os):World:=
 { World.holding Tryz.prog os ⟨#[],#[],[]⟩ with heap:=(((World.holding Tryz.prog os ⟨#[],#[],[]⟩).heap.modify 0 (layAs Rows.laid_math_bits_deBruijn32tab)).modify 3 (layAs Rows.laid_math_bits_deBruijn64tab)).modify 1 (layAs Rows.laid_internal_strconv_uint64pow10) }
theorem laidWorldT_met (os:Go.Os) (args:Array Value):laidMetH Tryz.prog laidT ((laidWorldT os).forCall (fun _ _=>0) ⟨#[],args,[]⟩).memory:=
 laidMetH_of_parts (laidMet_of_run' 8 (by kernel_rfl) (by kernel_rfl)) (by kernel_rfl)
theorem Tryz.gTab : Tryz.prog.globalNamed "math/bits.deBruijn32tab" = some 0 := by kernel_rfl
theorem Tryz.gTabType:(Tryz.prog.globals[0]?).map (·.type) = some 159:=by kernel_rfl
theorem Tryz.tabUnder:Tryz.prog.underlying 159 = some (.array 32 5):=by kernel_rfl
theorem Tryz.byteUnder:Tryz.prog.underlying 5 = some (.int .u8):=by kernel_rfl
theorem Tryz.byteCells:Tryz.prog.cellsOf 5 = 1:=by kernel_rfl
theorem Tryz.tabCells:Tryz.prog.cellsOf 159 = 32:=by kernel_rfl
def tabInts:List Int:=Lib.deBruijn32tab.map Int.ofNat
theorem laidT_tab : laidT.filter (fun x => x.1 == "math/bits.deBruijn32tab") = [("math/bits.deBruijn32tab", Lib.tabData .u8 tabInts)] := by kernel_rfl
theorem tbT_of_laid {W:World} (h:laidMetH Tryz.prog laidT W):Tb W:=by
 have h1:laidMet Tryz.prog laidT W:=(laidMetH_iff.1 h).1
 have h2 := h1.filter (fun x => x.1 == "math/bits.deBruijn32tab")
 rw [laidT_tab] at h2
 have h3:=Lib.tabIs_of_head Tryz.gTab Tryz.gTabType Tryz.tabUnder Tryz.byteUnder Tryz.byteCells Tryz.tabCells h2
 have hc:∀ j,j < 32→W.cell? ⟨0,j,none⟩ = some (.int .u8 ((Lib.deBruijn32tab.getD j 0:Nat):Int)):=fun j hj=>by
  have h4:=h3.cell Tryz.gTab j (by exact hj)
  rw [h4]
  have h5:j < Lib.deBruijn32tab.length:=hj
  simp [tabInts,h5]
 exact ⟨World.block_lt_of_cell? W ⟨0,0,none⟩ (hc 0 (by decide)),hc⟩
end Go.Proofs.YtnjgeccffjdheaaGreatDoor
