/- Of what LexDigitsRow stands on: LxTied. -/
import Derived.Test.YtkcpkbnhlcdacaaGreatDoorRows
import Derived.Test.YtkcpkbnhlcdacaaGreatDoorPab
import Derived.Test.YtkcpkbnhlcdacaaGreatDoorPap
import Derived.Lib.LaidTab
import Derived.LaidLaws
import Derived.LaidHandle
import Derived.LaidSub
import Derived.ChangeVars
import Derived.Lay
namespace Go.Proofs.YtkcpkbnhlcdacaaGreatDoor
open Go.ChangeShapes Go.WideShapes Go.ChangeAt Go.RowKit
theorem Tryz.gErr : Tryz.prog.globalNamed "errors.errorType" = some 1 := by kernel_rfl
theorem Tryz.gB32 : Tryz.prog.globalNamed "math/bits.deBruijn32tab" = some 8 := by kernel_rfl
theorem Tryz.gNou : Tryz.prog.globalNamed "numeral/lex.noughts" = some 0 := by kernel_rfl
theorem Tryz.gB32Type:(Tryz.prog.globals[8]?).map (·.type) = some 179:=by kernel_rfl
theorem Tryz.gNouType:(Tryz.prog.globals[0]?).map (·.type) = some 53:=by kernel_rfl
theorem Tryz.b32Under:Tryz.prog.underlying 179 = some (.array 32 5):=by kernel_rfl
theorem Tryz.nouUnder:Tryz.prog.underlying 53 = some (.array 12 21):=by kernel_rfl
theorem Tryz.u8Under:Tryz.prog.underlying 5 = some (.int .u8):=by kernel_rfl
theorem Tryz.i32Under:Tryz.prog.underlying 21 = some (.int .i32):=by kernel_rfl
theorem Tryz.u8Cells:Tryz.prog.cellsOf 5 = 1:=by kernel_rfl
theorem Tryz.i32Cells:Tryz.prog.cellsOf 21 = 1:=by kernel_rfl
theorem Tryz.b32Cells:Tryz.prog.cellsOf 179 = 32:=by kernel_rfl
theorem Tryz.nouCells:Tryz.prog.cellsOf 53 = 12:=by kernel_rfl
def b32Ints:List Int:=[0,1,28,2,29,14,24,3,30,22,20,15,25,17,4,8,31,27,13,23,21,19,16,7,26,12,18,6,11,5,10,9]
def nouInts:List Int:=[48,1632,1776,1984,2406,2534,2662,3664,6112,65296,66720,120782]
theorem nou_at:∀ j:Fin 12,nouInts.getD j.val 0 = nouAt j.val:=by decide +kernel
abbrev laidX:List (String×DataW Unit):=Rows.lexDigitsRow.laid
abbrev laidXD:List (String×DataW Unit):=laidX.filter fun x=>x.2.handleName?.isNone
theorem laidX_h : (laidX.filter fun x => x.2.handleName?.isSome) = [("errors.errorType", Rows.laid_errors_errorType)] := by kernel_rfl
theorem laidX_b32 : laidXD.filter (fun x => x.1 == "math/bits.deBruijn32tab") = [("math/bits.deBruijn32tab", Lib.tabData .u8 b32Ints)] := by kernel_rfl
theorem laidX_nou : laidXD.filter (fun x => x.1 == "numeral/lex.noughts") = [("numeral/lex.noughts", Lib.tabData .i32 nouInts)] := by kernel_rfl
theorem err_row (t:Nat) (ht:t < Tryz.prog.types.size) (h:Tryz.prog.rowNamed t [101,114,114,111,114] = true):t = 37:=by
 have hall:((List.range Tryz.prog.types.size).all fun t=>!Tryz.prog.rowNamed t [101,114,114,111,114] || t == 37) = true:=by kernel_rfl
 have:=List.all_eq_true.1 hall t (List.mem_range.2 ht)
 rw [h] at this
 simpa using this
theorem held_var {W:World} {name:String} {g:Nat} {cs:Array Value} (hg:Tryz.prog.globalNamed name = some g) (h:W.var? Tryz.prog name = some cs):∃ o',W.heap[g]? = some o'∧∀ a x,ldO a (.cells cs 0 (0,0)) = some x→ldO a o' = some x:=by
 unfold World.var? at h
 rw [hg] at h
 simp only [Option.bind_some] at h
 split at h
 ·rename_i cs' t f hh
  cases h
  exact ⟨_,hh,fun a x hx=>hx⟩
 ·cases h
theorem lex_of_laid {W:World} (h:laidMetH Tryz.prog laidX W):Nou W∧HeldG lxalive_gl W:=by
 unfold laidMetH at h
 rw [laidX_h] at h
 obtain ⟨h1,h2⟩:=h
 have hb := h1.filter (fun x => x.1 == "math/bits.deBruijn32tab")
 rw [laidX_b32] at hb
 have tb:=Lib.tabIs_of_head Tryz.gB32 Tryz.gB32Type Tryz.b32Under Tryz.u8Under Tryz.u8Cells Tryz.b32Cells hb
 have hn := h1.filter (fun x => x.1 == "numeral/lex.noughts")
 rw [laidX_nou] at hn
 have tn:=Lib.tabIs_of_head Tryz.gNou Tryz.gNouType Tryz.nouUnder Tryz.i32Under Tryz.i32Cells Tryz.nouCells hn
 have he:=h2 _ (List.mem_singleton_self _)
 rw [show (("errors.errorType", Rows.laid_errors_errorType) : String × DataW Unit).2.funcsIn? = none from by kernel_rfl] at he
 obtain ⟨name,u,ty,e1,e2,e3,e4,e5⟩:=he
 obtain rfl : [101, 114, 114, 111, 114] = name := Option.some.inj ((show (("errors.errorType", Rows.laid_errors_errorType) : String × DataW Unit).2.handleName? = some [101, 114, 114, 111, 114] by kernel_rfl).symm.trans e1)
 obtain rfl : 118 = u := Option.some.inj ((show (Tryz.prog.cutTypes.find? (·.1 == "internal/reflectlite.rtype")).map (·.2) = some 118 by kernel_rfl).symm.trans e2)
 obtain rfl:=err_row ty e3 e4
 have e6 : W.var? Tryz.prog "errors.errorType" = some #[.iface 118 (.agg #[.pointer (some ⟨10, 37, none⟩)])] := e5.trans (by kernel_rfl)
 have hc:∀ j,j < 12→W.cell? ⟨0,j,none⟩ = some (.int .i32 (nouAt j)):=fun j hj=>by
  rw [tn.cell Tryz.gNou j (by exact hj),nou_at ⟨j,hj⟩]
 refine ⟨⟨World.block_lt_of_cell? W ⟨0,0,none⟩ (hc 0 (by decide)),hc⟩,fun g o hm=>?_⟩
 simp only [lxalive_gl,List.mem_cons,List.mem_nil_iff,or_false,Prod.mk.injEq] at hm
 rcases hm with ⟨rfl,rfl⟩|⟨rfl,rfl⟩|⟨rfl,rfl⟩
 ·exact held_var Tryz.gErr e6
 ·exact held_var Tryz.gB32 tb
 ·exact held_var Tryz.gNou tn
noncomputable def laidX0 (os:Go.Os):World:=
 { World.holding Tryz.prog os ⟨#[],#[],[]⟩ with heap:=(World.holding Tryz.prog os ⟨#[],#[],[]⟩).heap.modify 1 fun
   | .cells _ t frozen=>.cells #[.iface 118 (.agg #[.pointer (some ⟨10,37,none⟩)])] t frozen
   | o=>o }
noncomputable def laidWorldX (os:Go.Os):World:=(laidX0 os).layVars Tryz.prog laidXD
theorem laidWorldX_os (os:Go.Os):(laidWorldX os).os = os:=World.layVars_os _ _ _
theorem laidX_fits (os:Go.Os):(laidX0 os).layFits Tryz.prog laidXD [] = true:=by kernel_rfl
theorem laidX_ifaces (os:Go.Os):(laidX0 os).layIfaces Tryz.prog laidXD (laidWorldX os) = true:=by kernel_rfl
theorem laidWorldX_met (os:Go.Os) (args:Array Value):laidMetH Tryz.prog laidX ((laidWorldX os).forCall (fun _ _=>0) ⟨#[],args,[]⟩).memory:=by
 have e1:(laidXD.filter fun x=>(laidXD.map (·.1)).contains x.1) = laidXD:=List.filter_eq_self.2 fun x hx=>List.contains_iff_mem.2 (List.mem_map.2 ⟨x,hx,rfl⟩)
 have e2:(laidXD.filter fun x=>!(laidXD.map (·.1)).contains x.1) = []:=List.filter_eq_nil_iff.2 fun x hx=>by rw [List.contains_iff_mem.2 (List.mem_map.2 ⟨x,hx,rfl⟩)]; simp
 have h:laidMet Tryz.prog laidXD (laidWorldX os):=laidMet_layVars (w0:=laidX0 os) (laidXD.map (·.1)) [] (by rw [e1]; rfl) (by rw [e1]; exact laidX_fits os) (by rw [e1]; exact laidX_ifaces os) (by rw [e2]; exact LaidIn.none)
 exact laidMetH_of_parts (h.of_heap (by simp [World.memory,World.forCall,Input.heap])) (by kernel_rfl)
theorem laidWorldX_shaped (os:Go.Os) (args:Array Value):((laidWorldX os).forCall (fun _ _=>0) ⟨#[],args,[]⟩).Shaped Tryz.prog:=World.shaped_of_ZipB (by kernel_rfl) (by kernel_rfl)
end Go.Proofs.YtkcpkbnhlcdacaaGreatDoor
