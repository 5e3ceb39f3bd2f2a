/- Of what DecShiftsRow stands on: DcItoa. -/
import Derived.Test.YtdbmdhfjmdlihaaDoorPaf
import Derived.Shelf.Strconv.Itoa3
import Derived.Lib.AppendIntMem
namespace Go.Proofs.YtdbmdhfjmdlihaaDoor
open Go.RowKit
def itoaRen:Go.Shelf.Ren where
 f:=fun k=>match k with
  | 129=>49
  | 171=>18
  | 243=>29
  | 246=>35
  | 283=>43
  | 284=>44
  | 285=>45
  | 286=>46
  | 317=>48
  | 318=>50
  | 319=>51
  | 320=>52
  | 337=>53
  | 338=>54
  | _=>0
 t:=fun k=>match k with
  | 0=>0
  | 2=>2
  | 3=>3
  | 4=>4
  | 5=>5
  | 9=>9
  | 20=>20
  | 37=>36
  | 46=>55
  | 51=>64
  | 53=>53
  | 171=>70
  | 173=>73
  | 212=>77
  | 213=>78
  | 232=>82
  | 233=>83
  | _=>0
 g:=fun k=>match k with
  | 17=>1
  | 18=>2
  | 19=>3
  | _=>0
theorem itoa_lays:LaysM.n171 Tryd.prog itoaRen:=by
 constructor
 all_goals first
  | kernel_rfl
  | (intro w; kernel_rfl)
  | (constructor <;> first|kernel_rfl|(intro w; kernel_rfl))
def Tp (w : World) : Prop := Lib.TabIs Tryd.prog w "internal/strconv.uint64pow10" .u64 Lib.pow10Tab
theorem Tp.kept {w w':World} (h:Tp w) (hb:Below w.heap.size w w'):Tp w':=Lib.tabBelow_of_tabIs h w' hb
theorem itoa_any (n:Int) (h0:-9223372036854775808≤n) (h1:n≤9223372036854775807) (w:World) (ht:Tp w) :
  Calls Tryd.prog 18 #[.int .i64 n] w fun e w'=>e = .returned (.string ⟨(Lib.itoa n).toArray⟩)∧Below w.heap.size w w':=
 (Any.strconv_Itoa itoa_lays n h0 h1 w ht).mono fun e w' ⟨h,k,os,hw⟩=>⟨h,by rw [hw]; exact Lib.below_grow w.heap.size w (Nat.le_refl _) k os⟩
end Go.Proofs.YtdbmdhfjmdlihaaDoor
