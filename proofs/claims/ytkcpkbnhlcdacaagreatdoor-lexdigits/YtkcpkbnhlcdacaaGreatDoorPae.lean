/- Of what LexDigitsRow stands on: BitsLen. -/
import Derived.Test.YtkcpkbnhlcdacaaGreatDoorProg
import Derived.Lib.Strings
import Derived.Lib.Slices
import Derived.Lib.Small
import Derived.Lib.Walk
import Derived.Lib.BitFns
namespace Go.Proofs.YtkcpkbnhlcdacaaGreatDoor

end Go.Proofs.YtkcpkbnhlcdacaaGreatDoor
