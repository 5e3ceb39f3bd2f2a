/- Of what LexDigitsRow stands on: Compare Same. -/
import Derived.Test.YtkcpkbnhlcdacaaGreatDoorPad
import Derived.BigQuiet
namespace Go.Proofs.YtkcpkbnhlcdacaaGreatDoor
open Go.RowKit

end Go.Proofs.YtkcpkbnhlcdacaaGreatDoor
