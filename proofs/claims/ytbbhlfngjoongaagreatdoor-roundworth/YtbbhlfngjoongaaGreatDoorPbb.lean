/- Of what RoundWorthRow stands on: ExAddS ExAdd ExOver ExAddR. -/
import Derived.Test.YtbbhlfngjoongaaGreatDoorPba
import Derived.Test.YtbbhlfngjoongaaGreatDoorPaw
import Derived.Test.YtbbhlfngjoongaaGreatDoorPas
import Derived.Test.YtbbhlfngjoongaaGreatDoorPag
namespace Go.Proofs.YtbbhlfngjoongaaGreatDoor
open Go.RowKit
theorem st_mine2 {base:Nat} (a:Option Addr) (n c m:Nat):St base (fun W=>Mine W base a n c m):=st_mine base a n c m
end Go.Proofs.YtbbhlfngjoongaaGreatDoor
