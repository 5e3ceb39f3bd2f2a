/- Of what TurnThereRow stands on: ExAddS ExAdd ExOver ExAddR. -/
import Derived.Test.YtbgafednekomhaaGreatDoorPaz
import Derived.Test.YtbgafednekomhaaGreatDoorPaw
import Derived.Test.YtbgafednekomhaaGreatDoorPas
import Derived.Test.YtbgafednekomhaaGreatDoorPag
namespace Go.Proofs.YtbgafednekomhaaGreatDoor
open Go.RowKit
theorem st_mine2 {base:Nat} (a:Option Addr) (n c m:Nat):St base (fun W=>Mine W base a n c m):=st_mine base a n c m
end Go.Proofs.YtbgafednekomhaaGreatDoor
