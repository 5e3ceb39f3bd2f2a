/- Of what RoundIntegerRow stands on: ExAddS ExAdd ExOver ExAddR. -/
import Derived.Test.YtfjegmlpkiaifaaGreatDoorPbe
import Derived.Test.YtfjegmlpkiaifaaGreatDoorPaz
import Derived.Test.YtfjegmlpkiaifaaGreatDoorPav
import Derived.Test.YtfjegmlpkiaifaaGreatDoorPas
namespace Go.Proofs.YtfjegmlpkiaifaaGreatDoor
open Go.RowKit
theorem st_mine2 {base:Nat} (a:Option Addr) (n c m:Nat):St base (fun W=>Mine W base a n c m):=st_mine base a n c m
end Go.Proofs.YtfjegmlpkiaifaaGreatDoor
