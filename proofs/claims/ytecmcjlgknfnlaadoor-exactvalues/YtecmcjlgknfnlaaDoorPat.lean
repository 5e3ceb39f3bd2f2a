/- Of what ExactValuesRow stands on: ExAddS ExAdd. -/
import Derived.Test.YtecmcjlgknfnlaaDoorPaq
import Derived.Test.YtecmcjlgknfnlaaDoorPar
import Derived.Test.YtecmcjlgknfnlaaDoorPas
import Derived.Test.YtecmcjlgknfnlaaDoorPag
namespace Go.Proofs.YtecmcjlgknfnlaaDoor
open Go.RowKit
end Go.Proofs.YtecmcjlgknfnlaaDoor
namespace Go.Proofs.YtecmcjlgknfnlaaDoor
open Go.RowKit
end Go.Proofs.YtecmcjlgknfnlaaDoor
