/- Of what QuickRightRow stands on: QkTheLaw. -/
import Derived.Test.YtdekhacomggpgaaGreatDoorPaz
import Derived.Test.YtdekhacomggpgaaGreatDoorPaw
import Derived.Test.YtdekhacomggpgaaGreatDoorPbq
import Derived.Test.YtdekhacomggpgaaGreatDoorPbm
import Derived.Test.YtdekhacomggpgaaGreatDoorPbj
import Derived.Test.YtdekhacomggpgaaGreatDoorPbs
import Derived.Lib.IndexLaws
namespace Go.Proofs.YtdekhacomggpgaaGreatDoor
open Go.RowKit Ieee
theorem qfm64:Fm 11 52 9223372036854775808 9218868437227405312:=⟨⟨by decide,by decide,by decide,by decide⟩,by decide,by decide⟩
theorem qfm32:Fm 8 23 2147483648 2139095040:=⟨⟨by decide,by decide,by decide,by decide⟩,by decide,by decide⟩
theorem fmt64:Fmt FloatKind.f64.format 1023 52 9223372036854775808 9218868437227405312:=⟨rfl,by kernel_rfl,by kernel_rfl,by kernel_rfl⟩
theorem fmt32:Fmt FloatKind.f32.format 127 23 2147483648 2139095040:=⟨rfl,by kernel_rfl,by kernel_rfl,by kernel_rfl⟩
end Go.Proofs.YtdekhacomggpgaaGreatDoor
