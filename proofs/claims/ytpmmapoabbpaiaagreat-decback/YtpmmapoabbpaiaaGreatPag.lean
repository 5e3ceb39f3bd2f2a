/- Of what DecBackRow stands on: DcClone. -/
import Derived.Test.YtpmmapoabbpaiaaGreatPaf
import Derived.Shelf.Pu.Clone
namespace Go.Proofs.YtpmmapoabbpaiaaGreat
open Go.RowKit Go.Shelf
def cloneRen:Ren where
 f:=fun _=>110
 t:=fun k=>match k with
  | 3=>3
  | 4=>4
  | 5=>5
  | 9=>9
  | 37=>77
  | 47=>164
  | _=>0
 g:=fun _=>0
theorem clone_lays:LaysPu.n25 Tryz.prog cloneRen:=by
 constructor <;> first|kernel_rfl|(intro w; kernel_rfl)
theorem sclone_any (s:ByteArray) (w:World) (hlim:s.size≤281474976710656) :
  Calls Tryz.prog 81 #[.string s] w fun e w'=>e = .returned (.string s)∧Below w.heap.size w w':=by
 go_enter Tryz.func81,Tryz.ntmps81
 go_wp2_with fail
 refine (AnyPu.stringslite_Clone clone_lays s _ hlim).mono ?_
 rintro e w1 ⟨rfl,hb1⟩
 go_wp2
 go_ret
 exact ⟨rfl,hb1⟩
end Go.Proofs.YtpmmapoabbpaiaaGreat
