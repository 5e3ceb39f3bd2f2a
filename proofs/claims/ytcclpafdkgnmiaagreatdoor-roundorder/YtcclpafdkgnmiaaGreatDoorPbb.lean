/- Of what RoundOrderRow stands on: ExAddS ExAdd ExOver ExAddR. -/
import Derived.Test.YtcclpafdkgnmiaaGreatDoorPba
import Derived.Test.YtcclpafdkgnmiaaGreatDoorPaw
import Derived.Test.YtcclpafdkgnmiaaGreatDoorPas
import Derived.Test.YtcclpafdkgnmiaaGreatDoorPag
namespace Go.Proofs.YtcclpafdkgnmiaaGreatDoor
open Go.RowKit
theorem st_mine2 {base:Nat} (a:Option Addr) (n c m:Nat):St base (fun W=>Mine W base a n c m):=st_mine base a n c m
end Go.Proofs.YtcclpafdkgnmiaaGreatDoor
