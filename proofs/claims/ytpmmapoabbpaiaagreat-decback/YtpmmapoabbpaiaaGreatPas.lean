/- Of what DecBackRow stands on: RefUpDown ExCheck RefParse RefLess RefSums RefText. -/
import Derived.Test.YtpmmapoabbpaiaaGreatPaq
import Derived.Test.YtpmmapoabbpaiaaGreatPar
import Derived.Test.YtpmmapoabbpaiaaGreatPao
import Derived.Test.YtpmmapoabbpaiaaGreatPai
import Derived.BigQuiet
import Derived.Test.YtpmmapoabbpaiaaGreatPab
import Derived.Test.YtpmmapoabbpaiaaGreatPan
import Derived.Test.YtpmmapoabbpaiaaGreatPah
import Derived.Test.YtpmmapoabbpaiaaGreatPal
import Derived.Test.YtpmmapoabbpaiaaGreatPaf
import Derived.Deep.LoopGhost
namespace Go.Proofs.YtpmmapoabbpaiaaGreat
open Go.RowKit
def Far (x:Int):Prop:=x < -1073741824∨1073741824 < x
instance (x:Int):Decidable (Far x):=by unfold Far; infer_instance
theorem dck_num {w:World} {a:Option Addr} {n:Nat} {xs:List Nat} (hn:xs.length = n) (hl:Lim w a xs) (hw:Pl.Wf xs) (hc:chk xs = 0):Num w a n (Pl.val xs):=by
 have:=chk_zero hc
 exact ⟨xs,hn,hl,hw,this.2,rfl,by omega⟩
theorem dval_take_add (ds:List Nat) (k j:Nat) (h:k+j≤ds.length):Pl.dval (ds.take (k+j)) 0 = Pl.dval (ds.take k) 0 * 10 ^ j+Pl.dval ((ds.drop k).take j) 0:=by
 rw [List.take_add,dval_append,List.length_take,List.length_drop,Nat.min_eq_left (by omega)]
end Go.Proofs.YtpmmapoabbpaiaaGreat
