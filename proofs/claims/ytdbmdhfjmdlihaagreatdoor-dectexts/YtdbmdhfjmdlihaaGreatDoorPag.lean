/- Of what DecTextsRow stands on: DcItoa. -/
import Derived.Test.YtdbmdhfjmdlihaaGreatDoorPaf
import Derived.Shelf.Strconv.Itoa3
import Derived.Lib.AppendIntMem
namespace Go.Proofs.YtdbmdhfjmdlihaaGreatDoor
open Go.RowKit
def itoaRen:Go.Shelf.Ren where
 f:=fun k=>match k with
  | 129=>92
  | 171=>22
  | 243=>45
  | 246=>68
  | 283=>84
  | 284=>85
  | 285=>86
  | 286=>87
  | 317=>98
  | 318=>99
  | 319=>100
  | 320=>101
  | 337=>109
  | 338=>110
  | _=>0
 t:=fun k=>match k with
  | 0=>0
  | 2=>2
  | 3=>3
  | 4=>4
  | 5=>5
  | 9=>9
  | 20=>20
  | 37=>55
  | 46=>106
  | 51=>77
  | 53=>49
  | 171=>124
  | 173=>127
  | 212=>140
  | 213=>141
  | 232=>151
  | 233=>152
  | _=>0
 g:=fun k=>match k with
  | 17=>1
  | 18=>2
  | 19=>3
  | _=>0
theorem itoa_lays:LaysM.n171 Tryz.prog itoaRen:=by
 constructor
 all_goals first
  | kernel_rfl
  | (intro w; kernel_rfl)
  | (constructor <;> first|kernel_rfl|(intro w; kernel_rfl))
def Tp (w : World) : Prop := Lib.TabIs Tryz.prog w "internal/strconv.uint64pow10" .u64 Lib.pow10Tab
theorem Tp.kept {w w':World} (h:Tp w) (hb:Below w.heap.size w w'):Tp w':=Lib.tabBelow_of_tabIs h w' hb
theorem itoa_any (n:Int) (h0:-9223372036854775808≤n) (h1:n≤9223372036854775807) (w:World) (ht:Tp w) :
  Calls Tryz.prog 22 #[.int .i64 n] w fun e w'=>e = .returned (.string ⟨(Lib.itoa n).toArray⟩)∧Below w.heap.size w w':=
 (Any.strconv_Itoa itoa_lays n h0 h1 w ht).mono fun e w' ⟨h,k,os,hw⟩=>⟨h,by rw [hw]; exact Lib.below_grow w.heap.size w (Nat.le_refl _) k os⟩
end Go.Proofs.YtdbmdhfjmdlihaaGreatDoor
