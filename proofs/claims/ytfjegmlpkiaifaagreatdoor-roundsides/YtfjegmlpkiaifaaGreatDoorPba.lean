/- Of what RoundSidesRow stands on: ExAddS ExAdd ExOver ExAddR. -/
import Derived.Test.YtfjegmlpkiaifaaGreatDoorPaz
import Derived.Test.YtfjegmlpkiaifaaGreatDoorPaw
import Derived.Test.YtfjegmlpkiaifaaGreatDoorPas
import Derived.Test.YtfjegmlpkiaifaaGreatDoorPag
namespace Go.Proofs.YtfjegmlpkiaifaaGreatDoor
open Go.RowKit
theorem st_mine2 {base:Nat} (a:Option Addr) (n c m:Nat):St base (fun W=>Mine W base a n c m):=st_mine base a n c m
end Go.Proofs.YtfjegmlpkiaifaaGreatDoor
