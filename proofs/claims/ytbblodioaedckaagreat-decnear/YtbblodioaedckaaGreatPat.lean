/- Of what DecNearRow stands on: RefLow ExBits ExCmp. -/
import Derived.Test.YtbblodioaedckaaGreatPas
import Derived.Test.YtbblodioaedckaaGreatPao
import Derived.Deep.RegionWith
import Derived.Test.YtbblodioaedckaaGreatPab
import Derived.Test.YtbblodioaedckaaGreatPaf
import Derived.Test.YtbblodioaedckaaGreatPal
namespace Go.Proofs.YtbblodioaedckaaGreat
open Go.RowKit
def TogOk (w':World) (e:Ending) (u v:Nat):Prop:=∃ A N C A' N' C',e = .returned (.tuple #[.agg #[.slice A N C],.agg #[.slice A' N' C'],.int .i64 0])∧Num w' A N u∧Num w' A' N' v
theorem TogOk.of {w':World} {A A':Option Addr} {N C N' C' u v:Nat} (h:Num w' A N u) (h':Num w' A' N' v):TogOk w' (.returned (.tuple #[.agg #[.slice A N C],.agg #[.slice A' N' C'],.int .i64 0])) u v:=⟨_,_,_,_,_,_,rfl,h,h'⟩
structure Dy (w:World) (s:Bool) (a:Option Addr) (n m:Nat) (x:Int):Prop where
 num:Num w a n m
 ok:(m = 0∧s = false∧x = 0)∨(m % 2 = 1∧-1073741824≤x∧x≤1073741824)
theorem Dy.kept {w w':World} {s:Bool} {a:Option Addr} {n m:Nat} {x:Int} (h:Dy w s a n m x) (hb:Below w.heap.size w w'):Dy w' s a n m x:=⟨h.num.kept hb,h.ok⟩
theorem Dy.range {w:World} {s:Bool} {a:Option Addr} {n m:Nat} {x:Int} (h:Dy w s a n m x):-1073741824≤x∧x≤1073741824:=by
 rcases h.ok with ⟨_,_,rfl⟩|⟨_,h1,h2⟩
 ·omega
 ·exact ⟨h1,h2⟩
end Go.Proofs.YtbblodioaedckaaGreat
